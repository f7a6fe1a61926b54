/- What a writer lays: told, by a contract of a function that turns what it points to and may panic. -/
import Derived.Test.YtegfdigljpnhcaaRdkA
import Derived.Test.YtegfdigljpnhcaaJmt
namespace Go.Proofs.Ytegfdigljpnhcaa.jly
open Go Go.RowKit eng SX Fact fil dsk
open jmt (layD lay_on lay_bad wait_write)
open rdk hiding dbox
open symD hiding pRow_inj
set_option linter.unusedVariables false
set_option linter.unusedSimpArgs false
set_option maxRecDepth 1000000

def ELay (k : Nat) : PtrE := { k := k, elem := 91, cells := 4, ins := [none], outs := [], kinds := [.row, .row, .num, .num] }
def tabW (f : FuncId) : Option FnE := cond (Nat.beq f 53) (some (EWrite 1)) (cond (Nat.beq f 54) (some (EFlush 2)) none)
def wbox : BoxT := ⟨91, 0, false, [.leaf, .leaf, .leaf, .leaf], none, true⟩
noncomputable def flY := flat (bodyOf Try.prog 32)
noncomputable def lpY := flat (loopBody (nth flY 1))
def shY : Shape := ⟨[(0, .ptr 0 0 0 0), (1, .leaf)], [wbox], [some true, some true, some true, none, none], 35, 32⟩
def shYl : Shape := ⟨[(0, .ptr 0 0 0 0), (6, .leaf), (7, .leaf), (8, .leaf)], [wbox], [some true, none, none, some true, some true, none, none], 35, 32⟩
def shYR : Shape := ⟨[], [wbox], [some true, some true, none, none], 35, 32⟩
def pvY : Value := (.iface 9 (.string { data := { toList := [UInt8.ofNat 106, UInt8.ofNat 114, UInt8.ofNat 110, UInt8.ofNat 108, UInt8.ofNat 58, UInt8.ofNat 32, UInt8.ofNat 116, UInt8.ofNat 104, UInt8.ofNat 101, UInt8.ofNat 32, UInt8.ofNat 100, UInt8.ofNat 105, UInt8.ofNat 115, UInt8.ofNat 107, UInt8.ofNat 32, UInt8.ofNat 115, UInt8.ofNat 97, UInt8.ofNat 121, UInt8.ofNat 115, UInt8.ofNat 32, UInt8.ofNat 110, UInt8.ofNat 111] } }))
theorem pre : segTo Try.prog (orcFn tabW) 10000 (flY.take 1) shY [] shYl [(0, 0)] = some (.normal, [.ok (.len (.var 0)), .ok (.len (.var 0)), .ok (.con (.int .i64 0)), .ok (.var 3), .ok (.var 4)], [.var 0, .len (.var 0), .con (.int .i64 0), .var 1, .var 2, .var 3, .var 4]) := by kernel_rfl
theorem ex : segTo Try.prog (orcFn tabW) 10000 lpY shYl [0] shYl [(0, 0)] = some (.exit 0, [.ok (.bin .lss (.var 2) (.var 1)), .is (.bin .lss (.var 2) (.var 1)) (.bool false), .ok (.var 1), .ok (.var 2), .ok (.var 5), .ok (.var 6)], [.var 0, .var 1, .var 2, .var 3, .var 4, .var 5, .var 6]) := by kernel_rfl
theorem on : segTo Try.prog (orcFn tabW) 10000 lpY shYl [1, 1] shYl [(0, 0)] = some (.normal, [.ok (.bin .lss (.var 2) (.var 1)), .is (.bin .lss (.var 2) (.var 1)) (.bool true), .idx (.var 0) (.var 2) 2 2, .idx (.var 0) (.var 2) 2 2, .ok (.cell (.var 0) (.var 2) 2 0), .ok (.cell (.var 0) (.var 2) 2 1), .fn 53 (EWrite 1) [.var 3, .var 4, .var 5, .var 6, .cell (.var 0) (.var 2) 2 0, .cell (.var 0) (.var 2) 2 1], .ok (.fn 1 [.var 3, .var 4, .var 5, .var 6, .cell (.var 0) (.var 2) 2 0, .cell (.var 0) (.var 2) 2 1] 2), .ok (.fn 1 [.var 3, .var 4, .var 5, .var 6, .cell (.var 0) (.var 2) 2 0, .cell (.var 0) (.var 2) 2 1] 3), .is (.fn 1 [.var 3, .var 4, .var 5, .var 6, .cell (.var 0) (.var 2) 2 0, .cell (.var 0) (.var 2) 2 1] 4) (.bool true), .ok (.bin .add (.var 2) (.con (.int .i64 1))), .ok (.var 1), .ok (.bin .add (.var 2) (.con (.int .i64 1))), .ok (.fn 1 [.var 3, .var 4, .var 5, .var 6, .cell (.var 0) (.var 2) 2 0, .cell (.var 0) (.var 2) 2 1] 2), .ok (.fn 1 [.var 3, .var 4, .var 5, .var 6, .cell (.var 0) (.var 2) 2 0, .cell (.var 0) (.var 2) 2 1] 3)], [.var 0, .var 1, .bin .add (.var 2) (.con (.int .i64 1)), .fn 1 [.var 3, .var 4, .var 5, .var 6, .cell (.var 0) (.var 2) 2 0, .cell (.var 0) (.var 2) 2 1] 0, .fn 1 [.var 3, .var 4, .var 5, .var 6, .cell (.var 0) (.var 2) 2 0, .cell (.var 0) (.var 2) 2 1] 1, .fn 1 [.var 3, .var 4, .var 5, .var 6, .cell (.var 0) (.var 2) 2 0, .cell (.var 0) (.var 2) 2 1] 2, .fn 1 [.var 3, .var 4, .var 5, .var 6, .cell (.var 0) (.var 2) 2 0, .cell (.var 0) (.var 2) 2 1] 3]) := by kernel_rfl
theorem bad : segTo Try.prog (orcFn tabW) 10000 lpY shYl [1, 0] shYR [(0, 0)] = some (.panic pvY, [.ok (.bin .lss (.var 2) (.var 1)), .is (.bin .lss (.var 2) (.var 1)) (.bool true), .idx (.var 0) (.var 2) 2 2, .idx (.var 0) (.var 2) 2 2, .ok (.cell (.var 0) (.var 2) 2 0), .ok (.cell (.var 0) (.var 2) 2 1), .fn 53 (EWrite 1) [.var 3, .var 4, .var 5, .var 6, .cell (.var 0) (.var 2) 2 0, .cell (.var 0) (.var 2) 2 1], .ok (.fn 1 [.var 3, .var 4, .var 5, .var 6, .cell (.var 0) (.var 2) 2 0, .cell (.var 0) (.var 2) 2 1] 2), .ok (.fn 1 [.var 3, .var 4, .var 5, .var 6, .cell (.var 0) (.var 2) 2 0, .cell (.var 0) (.var 2) 2 1] 3), .is (.fn 1 [.var 3, .var 4, .var 5, .var 6, .cell (.var 0) (.var 2) 2 0, .cell (.var 0) (.var 2) 2 1] 4) (.bool false), .ok (.fn 1 [.var 3, .var 4, .var 5, .var 6, .cell (.var 0) (.var 2) 2 0, .cell (.var 0) (.var 2) 2 1] 2), .ok (.fn 1 [.var 3, .var 4, .var 5, .var 6, .cell (.var 0) (.var 2) 2 0, .cell (.var 0) (.var 2) 2 1] 3)], [.fn 1 [.var 3, .var 4, .var 5, .var 6, .cell (.var 0) (.var 2) 2 0, .cell (.var 0) (.var 2) 2 1] 0, .fn 1 [.var 3, .var 4, .var 5, .var 6, .cell (.var 0) (.var 2) 2 0, .cell (.var 0) (.var 2) 2 1] 1, .fn 1 [.var 3, .var 4, .var 5, .var 6, .cell (.var 0) (.var 2) 2 0, .cell (.var 0) (.var 2) 2 1] 2, .fn 1 [.var 3, .var 4, .var 5, .var 6, .cell (.var 0) (.var 2) 2 0, .cell (.var 0) (.var 2) 2 1] 3]) := by kernel_rfl
theorem fin1 : segTo Try.prog (orcFn tabW) 10000 (flY.drop 2) shYl [1] shYR [(0, 0)] = some (.normal, [.fn 54 (EFlush 2) [.var 3, .var 4, .var 5, .var 6], .ok (.fn 2 [.var 3, .var 4, .var 5, .var 6] 2), .ok (.fn 2 [.var 3, .var 4, .var 5, .var 6] 3), .is (.fn 2 [.var 3, .var 4, .var 5, .var 6] 4) (.bool true), .ok (.fn 2 [.var 3, .var 4, .var 5, .var 6] 2), .ok (.fn 2 [.var 3, .var 4, .var 5, .var 6] 3)], [.fn 2 [.var 3, .var 4, .var 5, .var 6] 0, .fn 2 [.var 3, .var 4, .var 5, .var 6] 1, .fn 2 [.var 3, .var 4, .var 5, .var 6] 2, .fn 2 [.var 3, .var 4, .var 5, .var 6] 3]) := by kernel_rfl
theorem fin0 : segTo Try.prog (orcFn tabW) 10000 (flY.drop 2) shYl [0] shYR [(0, 0)] = some (.panic pvY, [.fn 54 (EFlush 2) [.var 3, .var 4, .var 5, .var 6], .ok (.fn 2 [.var 3, .var 4, .var 5, .var 6] 2), .ok (.fn 2 [.var 3, .var 4, .var 5, .var 6] 3), .is (.fn 2 [.var 3, .var 4, .var 5, .var 6] 4) (.bool false), .ok (.fn 2 [.var 3, .var 4, .var 5, .var 6] 2), .ok (.fn 2 [.var 3, .var 4, .var 5, .var 6] 3)], [.fn 2 [.var 3, .var 4, .var 5, .var 6] 0, .fn 2 [.var 3, .var 4, .var 5, .var 6] 1, .fn 2 [.var 3, .var 4, .var 5, .var 6] 2, .fn 2 [.var 3, .var 4, .var 5, .var 6] 3]) := by kernel_rfl

/-! The model. -/
def layQ (d : D) (l : List (Nat × ByteArray)) : List PV := if (layD d l).2 = true then pI 0 :: pD (layD d l).1 else pI ((0 + 1 : Nat) : Int) :: pD (layD d l).1
@[simp] theorem kW (k : Nat) : (EWrite k).k = k := rfl
@[simp] theorem kF (k : Nat) : (EFlush k).k = k := rfl
def RLay (ps qs : List PV) : Prop := ∃ (l : List (Nat × ByteArray)) (d : D), d.ok ∧ d.wait.length + l.length ≤ 900 ∧ ps = pRow encP l :: pD d ∧ qs = layQ d l
theorem fLay : ∀ ps q1 q2, RLay ps q1 → RLay ps q2 → q1 = q2 := by
  rintro ps q1 q2 ⟨l, d, _, _, rfl, rfl⟩ ⟨l', d', _, _, h, rfl⟩
  simp only [List.cons.injEq] at h
  obtain ⟨h1, h2⟩ := h
  rw [symD.pRow_inj encP_inj h1, pD_inj h2]
noncomputable def FY : Fns := fun k => match k with | 1 => spec RWrite | 2 => spec RFlush | _ => fun _ => none
theorem FY1 {d d' : D} {i : Nat} {s : ByteArray} {b : Bool} (ok : d.ok) (h : writeD d i s = (d', b)) : FY 1 [pRow encS d.last, pRow encP d.wait, pI (d.arm : Int), pB d.down, pI (i : Int), pS s] = some [pRow encS d'.last, pRow encP d'.wait, pI (d'.arm : Int), pB d'.down, pB b] := spec_of fWrite ⟨d, i, s, ok, rfl, by rw [h]; rfl⟩
theorem FY2 {d d' : D} {b : Bool} (ok : d.ok) (h : flush2 d = (d', b)) : FY 2 [pRow encS d.last, pRow encP d.wait, pI (d.arm : Int), pB d.down] = some [pRow encS d'.last, pRow encP d'.wait, pI (d'.arm : Int), pB d'.down, pB b] := spec_of fFlush ⟨d, ok, rfl, by rw [h]; rfl⟩
theorem cutY : flY = flY.take 1 ++ .block (blockId (nth flY 1)) (.loop (loopBody (nth flY 1))) :: flY.drop 2 := by kernel_rfl
theorem s1 (hW : ∀ k, ToldF 53 (EWrite k) (spec RWrite)) : ToldF 53 (EWrite 1) (FY 1) := hW 1
set_option maxHeartbeats 2000000 in
theorem toldLay (hW : ∀ k, ToldF 53 (EWrite k) (spec RWrite)) (hFl : ∀ k, ToldF 54 (EFlush k) (spec RFlush)) (k0 : Nat) : ToldQ 32 (ELay k0) [pvY] (spec RLay) := by
  have t1 : ToldF 53 (EWrite 1) (FY 1) := hW 1
  have t2 : ToldF 54 (EFlush 2) (FY 2) := hFl 2
  refine told_ptrQ FY _ (bodyOf Try.prog 32) Try.func32 (by kernel_rfl) shY (by kernel_rfl) ?_ ?_
  · intro ps qs h i hi
    obtain ⟨l, d, _, _, rfl, rfl⟩ := of_spec h
    simp [shY] at hi
    match i, hi with
    | 0, hi => simp at hi
    | 1, hi => simp at hi
    | 2, hi => simp at hi
    | 3, hi => exact ⟨_, rfl, rfl⟩
    | 4, hi => exact ⟨_, rfl, rfl⟩
    | i + 5, hi => simp at hi
  · intro C ps qs hF h a w hsh
    obtain ⟨l, d, ok, hm, rfl, rfl⟩ := of_spec h
    simp only [pD] at hsh
    show wpL Try.prog flY _ a w
    rw [cutY]
    refine seg_ok names_ok mixed_ok (orcFn_ok _) pre hsh ?_ ?_
    · simp only [List.mem_cons, List.not_mem_nil, or_false, forall_eq_or_imp, forall_eq]
      simp [holds_idxP, holds_cellsP, Base.ev, SX.ev, evs, Value.oneCell', lenPV_row]
    intro qs a1 w1 hq h1
    refine ⟨fun _ => ?_, fun h => absurd rfl h⟩
    simp [evs, SX.ev, lenPV_row] at hq
    subst hq
    refine block_loopX (fun n a w => ∃ (k : Nat) (d' : D), k ≤ l.length ∧ n = l.length - k ∧ d'.ok ∧ d'.wait.length + (l.length - k) ≤ 900 ∧ layD d l = layD d' (l.drop k) ∧ InShape C shYl [pRow encP l, pI (l.length : Int), pI (k : Int), pRow encS d'.last, pRow encP d'.wait, pI (d'.arm : Int), pB d'.down] a w) ?_ (n := l.length) ⟨0, d, by omega, by omega, ok, by omega, by simp, h1⟩
    rintro n a w ⟨k, d1, hk, rfl, ok1, hm1, hd1, hin⟩
    show wpL Try.prog lpY _ a w
    rw [← List.append_nil lpY]
    by_cases hlt : k < l.length
    · obtain ⟨c0, c1⟩ := cellP l k hlt
      have ix := idxP_row encP l k 2 2 .i64 rfl hlt (by decide)
      have v3 : IntKind.i64.wrap ((k : Int) + 1) = (k : Int) + 1 := wrapI _ (by omega) (by omega)
      cases hw : writeD d1 l[k].1 l[k].2 with
      | mk d2 b =>
        have e1 := FY1 ok1 hw
        have o2 := ok_write ok1 (by omega) l[k].1 l[k].2
        have w2 := wait_write d1 l[k].1 l[k].2
        rw [hw] at o2 w2
        simp only at w2
        cases b with
        | true =>
          have hn := lay_on hlt hw
          rw [hn] at hd1
          generalize l[k].2 = bk at *
          generalize (l[k].1 : Int) = ak at *
          refine seg_ok names_ok mixed_ok (orcFn_ok _) jly.on hin ?_ (fun qs a1 w1 hq h1 => ⟨fun _ => .inl ⟨rfl, l.length - (k + 1), by omega, k + 1, d2, by omega, rfl, o2, by omega, hd1, by simp [evs, SX.ev, hF, binPV, v3, c0, c1, e1] at hq; subst hq; exact h1⟩, fun h => absurd rfl h⟩)
          simp only [List.mem_cons, List.not_mem_nil, or_false, forall_eq_or_imp, forall_eq]
          simp [holds_idxP, holds_cellsP, Base.ev, SX.ev, evs, Value.oneCell', hF, binPV, v3, hlt, ix, c0, c1, e1, t1]
        | false =>
          have hn := lay_bad hlt hw
          have hq0 : layQ d l = pI ((0 + 1 : Nat) : Int) :: pD d2 := by rw [layQ, hd1, hn]; rfl
          generalize l[k].2 = bk at *
          generalize (l[k].1 : Int) = ak at *
          refine seg_ok names_ok mixed_ok (orcFn_ok _) bad hin ?_ (fun qs a1 w1 hq h1 => ⟨fun h => (by cases h), fun _ => .inr (.inr (.inr ⟨_, rfl, .inr ⟨0, _, _, shYR, _, [SX.var 0, SX.var 1, SX.var 2, SX.var 3], hq0, rfl, rfl, h1, by kernel_rfl, by simp [evs, SX.ev, hF, c0, c1, e1] at hq; subst hq; rfl⟩⟩))⟩)
          simp only [List.mem_cons, List.not_mem_nil, or_false, forall_eq_or_imp, forall_eq]
          simp [holds_idxP, holds_cellsP, Base.ev, SX.ev, evs, Value.oneCell', hF, binPV, v3, hlt, ix, c0, c1, e1, t1]
    · have hie : k = l.length := by omega
      subst hie
      refine seg_ok names_ok mixed_ok (orcFn_ok _) ex hin ?_ ?_
      · simp only [List.mem_cons, List.not_mem_nil, or_false, forall_eq_or_imp, forall_eq]
        simp [holds_idxP, holds_cellsP, Base.ev, SX.ev, evs, Value.oneCell', binPV]
      · intro qs a1 w1 hq h1
        refine ⟨fun h => (by cases h), fun _ => .inr (.inl ⟨by rw [show blockId (nth flY 1) = 0 by kernel_rfl]; rfl, ?_⟩)⟩
        simp [evs, SX.ev] at hq
        subst hq
        rw [← List.append_nil (flY.drop 2)]
        cases hf : flush2 d1 with
        | mk d2 b =>
          have e2 := FY2 ok1 hf
          rw [List.drop_length, layD, hf] at hd1
          cases b with
          | true =>
            have hq0 : layQ d l = pI 0 :: pD d2 := by rw [layQ, hd1]; rfl
            refine seg_ok names_ok mixed_ok (orcFn_ok _) fin1 h1 ?_ (fun qs a1 w1 hq h1 => ⟨fun _ => .inl ⟨_, hq0, .inl rfl, shYR, _, [SX.var 0, SX.var 1, SX.var 2, SX.var 3], h1, by kernel_rfl, by simp [evs, SX.ev, hF, e2] at hq; subst hq; rfl⟩, fun h => absurd rfl h⟩)
            simp only [List.mem_cons, List.not_mem_nil, or_false, forall_eq_or_imp, forall_eq]
            simp [holds_idxP, holds_cellsP, Base.ev, SX.ev, evs, Value.oneCell', hF, e2, t2]
          | false =>
            have hq0 : layQ d l = pI ((0 + 1 : Nat) : Int) :: pD d2 := by rw [layQ, hd1]; rfl
            refine seg_ok names_ok mixed_ok (orcFn_ok _) fin0 h1 ?_ (fun qs a1 w1 hq h1 => ⟨fun h => (by cases h), fun _ => .inr ⟨0, _, _, shYR, _, [SX.var 0, SX.var 1, SX.var 2, SX.var 3], hq0, rfl, rfl, h1, by kernel_rfl, by simp [evs, SX.ev, hF, e2] at hq; subst hq; rfl⟩⟩)
            simp only [List.mem_cons, List.not_mem_nil, or_false, forall_eq_or_imp, forall_eq]
            simp [holds_idxP, holds_cellsP, Base.ev, SX.ev, evs, Value.oneCell', hF, e2, t2]
end Go.Proofs.Ytegfdigljpnhcaa.jly
