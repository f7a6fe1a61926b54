/- The sectors that puts write; that each fills one: told. -/
import Derived.Test.YtegfdigljpnhcaaRdkA
import Derived.Test.YtegfdigljpnhcaaJmu
namespace Go.Proofs.Ytegfdigljpnhcaa.jsc
open Go Go.RowKit eng SX Fact fil dsk
open jmt (fills)
open rdk hiding dbox
open symD hiding pRow_inj
set_option linter.unusedVariables false
set_option linter.unusedSimpArgs false
set_option maxRecDepth 1000000

def ESct (k : Nat) : FnE := { k := k, ins := [none], leaks := [], outs := [none], kinds := [.row] }
def EFil (k : Nat) : FnE := { k := k, ins := [none], leaks := [], outs := [], kinds := [] }
def ibox (k : Nat) : BoxT := ⟨3, 1, true, [], some k, false⟩
noncomputable def flS := flat (bodyOf Try.prog 30)
noncomputable def lpS := flat (loopBody (nth flS 3))
def shS : Shape := ⟨[(0, .leaf)], [], [some false], 23, 30⟩
def shSl : Shape := ⟨[(3, .own 0 3 1), (9, .leaf), (10, .leaf), (11, .leaf)], [ibox 3], [some false, none, none], 23, 30⟩
def shSR : Shape := ⟨[(2, .own 0 0 1)], [ibox 0], [], 23, 30⟩
noncomputable def flM := flat (bodyOf Try.prog 31)
noncomputable def lpM := flat (loopBody (nth flM 1))
def shM : Shape := ⟨[(0, .leaf)], [], [some false], 16, 31⟩
def shMl : Shape := ⟨[(4, .leaf), (5, .leaf), (6, .leaf)], [], [some false, none, none], 16, 31⟩
def shMR : Shape := ⟨[], [], [], 16, 31⟩
theorem pre : segTo Try.prog fil.noOrc 10000 (flS.take 3) shS [] shSl [(1, 0)] = some (.normal, [.ok (.len (.var 0)), same (.len (.var 0)) (.len (.var 0)), upto (.len (.var 0)) 4294967296, .ok (.len (.var 0)), .ok (.len (.var 0)), .ok (.con (.int .i64 0)), same (.len (rop (ROp.rep [.int .i64 0]) [.len (.var 0)])) (.len (rop (ROp.rep [.int .i64 0]) [.len (.var 0)]))], [.var 0, .len (.var 0), .con (.int .i64 0), rop (ROp.rep [.int .i64 0]) [.len (.var 0)]]) := by kernel_rfl
def pvM : Value := (.iface 9 (.string { data := { toList := [UInt8.ofNat 106, UInt8.ofNat 114, UInt8.ofNat 110, UInt8.ofNat 108, UInt8.ofNat 58, UInt8.ofNat 32, UInt8.ofNat 105, UInt8.ofNat 116, UInt8.ofNat 32, UInt8.ofNat 100, UInt8.ofNat 111, UInt8.ofNat 101, UInt8.ofNat 115, UInt8.ofNat 32, UInt8.ofNat 110, UInt8.ofNat 111, UInt8.ofNat 116, UInt8.ofNat 32, UInt8.ofNat 102, UInt8.ofNat 105, UInt8.ofNat 108, UInt8.ofNat 108, UInt8.ofNat 32, UInt8.ofNat 97, UInt8.ofNat 32, UInt8.ofNat 115, UInt8.ofNat 101, UInt8.ofNat 99, UInt8.ofNat 116, UInt8.ofNat 111, UInt8.ofNat 114] } }))
theorem ex : segTo Try.prog fil.noOrc 10000 lpS shSl [0] shSl [(0, 0)] = some (.exit 0, [.ok (.bin .lss (.var 2) (.var 1)), .is (.bin .lss (.var 2) (.var 1)) (.bool false), .ok (.var 1), .ok (.var 2), same (.len (.var 3)) (.len (.var 3))], [.var 0, .var 1, .var 2, .var 3]) := by kernel_rfl
theorem on : segTo Try.prog fil.noOrc 10000 lpS shSl [1] shSl [(0, 0)] = some (.normal, [.ok (.bin .lss (.var 2) (.var 1)), .is (.bin .lss (.var 2) (.var 1)) (.bool true), .idx (.var 0) (.var 2) 2 2, .idx (.var 0) (.var 2) 2 2, .ok (.cell (.var 0) (.var 2) 2 0), .ok (.cell (.var 0) (.var 2) 2 1), rng (.var 2) (.len (.var 3)), .idx (.var 3) (.var 2) 1 1, .ok (.bin .add (.var 2) (.con (.int .i64 1))), .ok (.var 1), .ok (.bin .add (.var 2) (.con (.int .i64 1))), same (.len (.var 3)) (.len (rop (ROp.upd 1 0) [.var 3, .var 2, .cell (.var 0) (.var 2) 2 0]))], [.var 0, .var 1, .bin .add (.var 2) (.con (.int .i64 1)), rop (ROp.upd 1 0) [.var 3, .var 2, .cell (.var 0) (.var 2) 2 0]]) := by kernel_rfl
theorem post : segTo Try.prog fil.noOrc 10000 (flS.drop 4) shSl [] shSR [(0, 0)] = some (.ret, [same (.len (.var 3)) (.len (.var 3))], [.var 3]) := by kernel_rfl
theorem mpre : segTo Try.prog fil.noOrc 10000 (flM.take 1) shM [] shMl [] = some (.normal, [.ok (.len (.var 0)), .ok (.len (.var 0)), .ok (.con (.int .i64 0))], [.var 0, .len (.var 0), .con (.int .i64 0)]) := by kernel_rfl
theorem mex : segTo Try.prog fil.noOrc 10000 lpM shMl [0] shMR [] = some (.exit 0, [.ok (.bin .lss (.var 2) (.var 1)), .is (.bin .lss (.var 2) (.var 1)) (.bool false)], []) := by kernel_rfl
theorem mon : segTo Try.prog fil.noOrc 10000 lpM shMl [1, 0] shMl [] = some (.normal, [.ok (.bin .lss (.var 2) (.var 1)), .is (.bin .lss (.var 2) (.var 1)) (.bool true), .idx (.var 0) (.var 2) 2 2, .idx (.var 0) (.var 2) 2 2, .ok (.cell (.var 0) (.var 2) 2 0), .ok (.cell (.var 0) (.var 2) 2 1), .ok (.slen (.cell (.var 0) (.var 2) 2 1)), .ok (.bin .neq (.slen (.cell (.var 0) (.var 2) 2 1)) (.con (.int .i64 32))), .is (.bin .neq (.slen (.cell (.var 0) (.var 2) 2 1)) (.con (.int .i64 32))) (.bool false), .ok (.bin .add (.var 2) (.con (.int .i64 1))), .ok (.var 1), .ok (.bin .add (.var 2) (.con (.int .i64 1)))], [.var 0, .var 1, .bin .add (.var 2) (.con (.int .i64 1))]) := by kernel_rfl
theorem bad : segTo Try.prog fil.noOrc 10000 lpM shMl [1, 1] shMR [] = some (.panic pvM, [.ok (.bin .lss (.var 2) (.var 1)), .is (.bin .lss (.var 2) (.var 1)) (.bool true), .idx (.var 0) (.var 2) 2 2, .idx (.var 0) (.var 2) 2 2, .ok (.cell (.var 0) (.var 2) 2 0), .ok (.cell (.var 0) (.var 2) 2 1), .ok (.slen (.cell (.var 0) (.var 2) 2 1)), .ok (.bin .neq (.slen (.cell (.var 0) (.var 2) 2 1)) (.con (.int .i64 32))), .is (.bin .neq (.slen (.cell (.var 0) (.var 2) 2 1)) (.con (.int .i64 32))) (.bool true)], []) := by kernel_rfl

def ats (l : List (Nat × ByteArray)) : List Int := l.map fun p => (p.1 : Int)
def atsK (l : List (Nat × ByteArray)) (k : Nat) : List Int := ats (l.take k) ++ List.replicate (l.length - k) 0
theorem atsK_len (l : List (Nat × ByteArray)) (k : Nat) (h : k ≤ l.length) : (atsK l k).length = l.length := by simp [atsK, ats]; omega
theorem atsK_all (l : List (Nat × ByteArray)) : atsK l l.length = ats l := by simp [atsK]
theorem atsK_zero (l : List (Nat × ByteArray)) : atsK l 0 = List.replicate l.length 0 := by simp [atsK, ats]
theorem atsK_set (l : List (Nat × ByteArray)) (k : Nat) (h : k < l.length) : (atsK l k).set k (l[k].1 : Int) = atsK l (k + 1) := by
  have hl : (ats (l.take k)).length = k := by simp [ats]; omega
  have e : l.length - k = (l.length - (k + 1)) + 1 := by omega
  unfold atsK
  rw [e, List.replicate_succ, List.set_append_right _ _ (by omega), hl, Nat.sub_self, List.set_cons_zero]
  rw [List.take_add_one, List.getElem?_eq_getElem h, Option.toList_some]
  simp only [ats, List.map_append, List.map_cons, List.map_nil, List.append_assoc, List.singleton_append]
theorem r_rep0 (n : Nat) : ropPV (.rep [.int .i64 0]) [pI (n : Int)] = some (pRow encI (List.replicate n 0)) := by
  have h : (0 : Int) ≤ (n : Int) := by omega
  have e : ∀ n : Nat, List.replicate n (PV.v (Value.int IntKind.i64 0)) = List.map PV.v (List.flatMap (fun z => [Value.int IntKind.i64 z]) (List.replicate n 0)) := fun n => by
    induction n with
    | zero => rfl
    | succ n ih => rw [List.replicate_succ, List.replicate_succ, List.flatMap_cons, List.map_append, ih]; rfl
  simp [ropPV, h, pRow, Enc.all, encI, e]
def RSct (ps qs : List PV) : Prop := ∃ l : List (Nat × ByteArray), l.length ≤ 1000 ∧ ps = [pRow encP l] ∧ qs = [pRow encI (ats l)]
theorem fSct : ∀ ps q1 q2, RSct ps q1 → RSct ps q2 → q1 = q2 := by
  rintro ps q1 q2 ⟨l, _, rfl, rfl⟩ ⟨l', _, h, rfl⟩
  simp only [List.cons.injEq, and_true] at h
  rw [symD.pRow_inj encP_inj h]
theorem cutS : flS = flS.take 3 ++ .block (blockId (nth flS 3)) (.loop (loopBody (nth flS 3))) :: flS.drop 4 := by kernel_rfl
theorem cutM : flM = flM.take 1 ++ .block (blockId (nth flM 1)) (.loop (loopBody (nth flM 1))) :: flM.drop 2 := by kernel_rfl
theorem toldSct (k0 : Nat) : ToldF 30 (ESct k0) (spec RSct) := by
  refine told_by (fun _ _ => none) _ (bodyOf Try.prog 30) Try.func30 (by kernel_rfl) shS (by kernel_rfl) ?_ ?_
  · intro ps qs h i hi
    obtain ⟨l, _, rfl, rfl⟩ := of_spec h
    simp [shS] at hi
    match i, hi with
    | 0, hi => simp at hi
    | i + 1, hi => simp at hi
  · intro C ps qs hF h a w hsh
    obtain ⟨l, hl, rfl, rfl⟩ := of_spec h
    show wpL Try.prog flS _ a w
    rw [cutS]
    have r0 := r_rep0 l.length
    refine seg_ok names_ok mixed_ok fil.noOrc_ok pre hsh ?_ ?_
    · simp only [List.mem_cons, List.not_mem_nil, or_false, forall_eq_or_imp, forall_eq]
      simp [holds_idxP, holds_cellsP, Base.ev, SX.ev, evs, Value.oneCell', lenPV_row, r0]
      omega
    intro qs a1 w1 hq h1
    refine ⟨fun _ => ?_, fun h => absurd rfl h⟩
    simp [evs, SX.ev, lenPV_row, r0] at hq
    subst hq
    rw [← atsK_zero] at h1
    refine block_loop (fun n a w => ∃ k : Nat, k ≤ l.length ∧ n = l.length - k ∧ InShape C shSl [pRow encP l, pI (l.length : Int), pI (k : Int), pRow encI (atsK l k)] a w) ?_ (n := l.length) ⟨0, by omega, by omega, h1⟩
    rintro n a w ⟨k, hk, rfl, hin⟩
    show wpL Try.prog lpS _ a w
    rw [← List.append_nil lpS]
    by_cases hlt : k < l.length
    · obtain ⟨c0, c1⟩ := cellP l k hlt
      have hlen := atsK_len l k hk
      have hlen2 := atsK_len l (k + 1) hlt
      have ix := idxP_row encP l k 2 2 .i64 rfl hlt (by decide)
      have ix2 := idxP_row encI (atsK l k) k 1 1 .i64 rfl (by omega) (by decide)
      have v3 : IntKind.i64.wrap ((k : Int) + 1) = (k : Int) + 1 := wrapI _ (by omega) (by omega)
      have ru : ropPV (.upd 1 0) [pRow encI (atsK l k), pI (k : Int), pI (l[k].1 : Int)] = some (pRow encI ((atsK l k).set k (l[k].1 : Int))) := r_updE encI (atsK l k) k .i64 (l[k].1 : Int) (by omega)
      rw [atsK_set l k hlt] at ru
      have go : ∀ qs a1 w1, qs = [pRow encP l, pI (l.length : Int), pI ((k : Int) + 1), pRow encI (atsK l (k + 1))] → InShape C shSl qs a1 w1 → ∃ n', n' < l.length - k ∧ ∃ k' : Nat, k' ≤ l.length ∧ n' = l.length - k' ∧ InShape C shSl [pRow encP l, pI (l.length : Int), pI (k' : Int), pRow encI (atsK l k')] a1 w1 := by
        rintro qs a1 w1 rfl h
        exact ⟨l.length - (k + 1), by omega, k + 1, by omega, rfl, h⟩
      generalize atsK l (k + 1) = x2 at *
      generalize atsK l k = x1 at *
      generalize l[k].2 = bk at *
      generalize (l[k].1 : Int) = ak at *
      refine seg_ok names_ok mixed_ok fil.noOrc_ok jsc.on hin ?_ (fun qs a1 w1 hq h1 => ⟨fun _ => .inl ⟨rfl, go qs a1 w1 (by simp [evs, SX.ev, binPV, v3, c0, ru] at hq; exact hq.symm) h1⟩, fun h => absurd rfl h⟩)
      simp only [List.mem_cons, List.not_mem_nil, or_false, forall_eq_or_imp, forall_eq]
      simp [holds_idxP, holds_cellsP, Base.ev, SX.ev, evs, Value.oneCell', lenPV_row, binPV, v3, hlt, ix, ix2, c0, c1, ru, hlen, hlen2]
    · have hie : k = l.length := by omega
      subst hie
      rw [atsK_all] at hin
      generalize ats l = x at *
      refine seg_ok names_ok mixed_ok fil.noOrc_ok ex hin ?_ ?_
      · simp only [List.mem_cons, List.not_mem_nil, or_false, forall_eq_or_imp, forall_eq]
        simp [holds_idxP, holds_cellsP, Base.ev, SX.ev, evs, Value.oneCell', lenPV_row, binPV]
      · intro qs a1 w1 hq h1
        refine ⟨fun h => (by cases h), fun _ => .inr (.inl ⟨by rw [show blockId (nth flS 3) = 0 by kernel_rfl]; rfl, ?_⟩)⟩
        simp [evs, SX.ev] at hq
        subst hq
        rw [← List.append_nil (flS.drop 4)]
        refine seg_ok names_ok mixed_ok fil.noOrc_ok post h1 ?_ (fun qs a1 w1 hq h1 => ⟨fun h => (by cases h), fun _ => ⟨.inr rfl, shSR, _, [SX.var 0], h1, by kernel_rfl, by simp [evs, SX.ev] at hq; subst hq; rfl⟩⟩)
        simp only [List.mem_cons, List.not_mem_nil, or_false, forall_eq_or_imp, forall_eq]
        simp [holds_idxP, holds_cellsP, Base.ev, SX.ev, evs, Value.oneCell', lenPV_row]

/-! Each fills a sector. -/
def RFil (ps qs : List PV) : Prop := ∃ l : List (Nat × ByteArray), l.length ≤ 1000 ∧ ps = [pRow encP l] ∧ qs = (if fills l then [pI 0] else [pI ((0 + 1 : Nat) : Int)])
theorem fFil : ∀ ps q1 q2, RFil ps q1 → RFil ps q2 → q1 = q2 := by
  rintro ps q1 q2 ⟨l, _, rfl, rfl⟩ ⟨l', _, h, rfl⟩
  simp only [List.cons.injEq, and_true] at h
  rw [symD.pRow_inj encP_inj h]
theorem toldFil (k0 : Nat) : ToldX 31 (EFil k0) [pvM] (spec RFil) := by
  refine told_byX (fun _ _ => none) _ (bodyOf Try.prog 31) Try.func31 (by kernel_rfl) shM (by kernel_rfl) ?_ ?_
  · intro ps qs h i hi
    obtain ⟨l, _, rfl, rfl⟩ := of_spec h
    simp [shM] at hi
    match i, hi with
    | 0, hi => simp at hi
    | i + 1, hi => simp at hi
  · intro C ps qs hF h a w hsh
    obtain ⟨l, hl, rfl, hqs⟩ := of_spec h
    show wpL Try.prog flM _ a w
    rw [cutM]
    refine seg_ok names_ok mixed_ok fil.noOrc_ok mpre hsh ?_ ?_
    · simp only [List.mem_cons, List.not_mem_nil, or_false, forall_eq_or_imp, forall_eq]
      simp [holds_idxP, holds_cellsP, Base.ev, SX.ev, evs, Value.oneCell', lenPV_row]
    intro qs a1 w1 hq h1
    refine ⟨fun _ => ?_, fun h => absurd rfl h⟩
    simp [evs, SX.ev, lenPV_row] at hq
    subst hq
    refine block_loopX (fun n a w => ∃ k : Nat, k ≤ l.length ∧ n = l.length - k ∧ (∀ j (hj : j < l.length), j < k → l[j].2.size = 32) ∧ InShape C shMl [pRow encP l, pI (l.length : Int), pI (k : Int)] a w) ?_ (n := l.length) ⟨0, by omega, by omega, fun j _ h => absurd h (by omega), h1⟩
    rintro n a w ⟨k, hk, rfl, hb, hin⟩
    show wpL Try.prog lpM _ a w
    rw [← List.append_nil lpM]
    by_cases hlt : k < l.length
    · obtain ⟨c0, c1⟩ := cellP l k hlt
      have ix := idxP_row encP l k 2 2 .i64 rfl hlt (by decide)
      have v3 : IntKind.i64.wrap ((k : Int) + 1) = (k : Int) + 1 := wrapI _ (by omega) (by omega)
      by_cases h32 : l[k].2.size = 32
      · have h32' : (l[k].2.size : Int) = 32 := by omega
        refine seg_ok names_ok mixed_ok fil.noOrc_ok mon hin ?_ (fun qs a1 w1 hq h1 => ⟨fun _ => .inl ⟨rfl, l.length - (k + 1), by omega, k + 1, by omega, rfl, fun j hj hji => ?_, by simp [evs, SX.ev, binPV, v3] at hq; subst hq; exact h1⟩, fun h => absurd rfl h⟩)
        · simp only [List.mem_cons, List.not_mem_nil, or_false, forall_eq_or_imp, forall_eq]
          simp [holds_idxP, holds_cellsP, Base.ev, SX.ev, evs, Value.oneCell', lenPV_row, binPV, slenPV, v3, hlt, ix, c0, c1, h32']
        · by_cases hje : j = k
          · subst hje; exact h32
          · exact hb j hj (by omega)
      · have h32' : ¬ (l[k].2.size : Int) = 32 := by omega
        have hno : fills l = false := by
          cases hf : fills l with
          | false => rfl
          | true => exact absurd (by simpa using List.all_eq_true.1 hf _ (List.getElem_mem hlt)) h32
        rw [hno] at hqs
        refine seg_ok names_ok mixed_ok fil.noOrc_ok bad hin ?_ (fun qs a1 w1 hq h1 => ⟨fun h => (by cases h), fun _ => .inr (.inr (.inr ⟨_, rfl, .inr ⟨0, _, _, _, hqs, rfl, rfl, h1⟩⟩))⟩)
        simp only [List.mem_cons, List.not_mem_nil, or_false, forall_eq_or_imp, forall_eq]
        simp [holds_idxP, holds_cellsP, Base.ev, SX.ev, evs, Value.oneCell', lenPV_row, binPV, slenPV, v3, hlt, ix, c0, c1, h32']
    · have hie : k = l.length := by omega
      subst hie
      have hyes : fills l = true := by
        rw [fills, List.all_eq_true]
        intro p hp
        obtain ⟨j, hj, rfl⟩ := List.getElem_of_mem hp
        simpa using hb j hj hj
      rw [hyes] at hqs
      refine seg_ok names_ok mixed_ok fil.noOrc_ok mex hin ?_ (fun qs a1 w1 hq h1 => ⟨fun h => (by cases h), fun _ => .inr (.inl ⟨by rw [show blockId (nth flM 1) = 0 by kernel_rfl]; rfl, ?_⟩)⟩)
      · simp only [List.mem_cons, List.not_mem_nil, or_false, forall_eq_or_imp, forall_eq]
        simp [holds_idxP, holds_cellsP, Base.ev, SX.ev, evs, Value.oneCell', lenPV_row, binPV]
      · show wpL Try.prog [] _ a1 w1
        exact .inl ⟨_, hqs, .inl rfl, shMR, _, [], h1, by kernel_rfl, rfl⟩

end Go.Proofs.Ytegfdigljpnhcaa.jsc
