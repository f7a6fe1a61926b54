/- What is written into a file: file.All. -/
import Derived.Test.YtnelcjofgpplgaaMrg5
namespace Go.Proofs.Ytnelcjofgpplgaa.fil
open Go Go.RowKit eng SX Fact
set_option linter.unusedVariables false
set_option linter.unusedSimpArgs false
set_option maxRecDepth 1000000

def encW : Enc (Int × ByteArray) := { sz := 2, enc := fun p => [.int .i64 p.1, .string p.2], len := fun _ => rfl, one := fun _ u hu => by simp at hu; rcases hu with rfl | rfl <;> rfl, pos := by decide }
noncomputable def flA := flat (bodyOf Try.prog 66)
noncomputable def lpA := flat (loopBody (nth flA 3))
def bvar (j k : Nat) : BoxT := ⟨22, 0, false, [.own j k 1], none, false⟩
def shA : Shape := ⟨[(0, .leaf), (1, .leaf)], [], [none, some false], 21, 66⟩
def shAl : Shape := ⟨[(5, .ptr 0 0 0 0), (10, .leaf), (11, .leaf), (12, .leaf)], [bvar 1 3, brow 3], [some false, none, none], 21, 66⟩
def shAr : Shape := ⟨[(4, .leaf)], [], [none], 21, 66⟩
theorem preA : segTo Try.prog noOrc 10000 (flA.take 3) shA [] shAl [(2, 0), (1, 0)] = some (.normal, [upto (.slen (.var 0)) 4294967296, .ok (.len (.var 1)), .ok (.len (.var 1)), .ok (.con (.int .i64 0)), same (.len (rop ROp.ofStr [.var 0])) (.len (rop ROp.ofStr [.var 0]))], [.var 1, .len (.var 1), .con (.int .i64 0), rop ROp.ofStr [.var 0]]) := by kernel_rfl
theorem exA : segTo Try.prog noOrc 10000 lpA shAl [0] shAl [(0, 0), (1, 0)] = some (.exit 0, [.ok (.bin .lss (.var 2) (.var 1)), .is (.bin .lss (.var 2) (.var 1)) (.bool false), .ok (.var 1), .ok (.var 2), same (.len (.var 3)) (.len (.var 3))], [.var 0, .var 1, .var 2, .var 3]) := by kernel_rfl
theorem noA1 : segTo Try.prog noOrc 10000 lpA shAl [1, 1] shAl [(0, 0), (1, 0)] = some (.normal, [.ok (.bin .lss (.var 2) (.var 1)), .is (.bin .lss (.var 2) (.var 1)) (.bool true), .idx (.var 0) (.var 2) 2 2, .idx (.var 0) (.var 2) 2 2, .ok (.cell (.var 0) (.var 2) 2 0), .ok (.cell (.var 0) (.var 2) 2 1), .ok (.slen (.cell (.var 0) (.var 2) 2 1)), .ok (.bin .lss (.slen (.cell (.var 0) (.var 2) 2 1)) (.con (.int .i64 1))), .is (.bin .lss (.slen (.cell (.var 0) (.var 2) 2 1)) (.con (.int .i64 1))) (.bool true), .ok (.bin .add (.var 2) (.con (.int .i64 1))), .ok (.var 1), .ok (.bin .add (.var 2) (.con (.int .i64 1))), same (.len (.var 3)) (.len (.var 3))], [.var 0, .var 1, .bin .add (.var 2) (.con (.int .i64 1)), .var 3]) := by kernel_rfl
theorem noA2 : segTo Try.prog noOrc 10000 lpA shAl [1, 0, 1] shAl [(0, 0), (1, 0)] = some (.normal, [.ok (.bin .lss (.var 2) (.var 1)), .is (.bin .lss (.var 2) (.var 1)) (.bool true), .idx (.var 0) (.var 2) 2 2, .idx (.var 0) (.var 2) 2 2, .ok (.cell (.var 0) (.var 2) 2 0), .ok (.cell (.var 0) (.var 2) 2 1), .ok (.slen (.cell (.var 0) (.var 2) 2 1)), .ok (.bin .lss (.slen (.cell (.var 0) (.var 2) 2 1)) (.con (.int .i64 1))), .is (.bin .lss (.slen (.cell (.var 0) (.var 2) 2 1)) (.con (.int .i64 1))) (.bool false), .ok (.bin .lss (.cell (.var 0) (.var 2) 2 0) (.con (.int .i64 0))), .is (.bin .lss (.cell (.var 0) (.var 2) 2 0) (.con (.int .i64 0))) (.bool true), .ok (.bin .add (.var 2) (.con (.int .i64 1))), .ok (.var 1), .ok (.bin .add (.var 2) (.con (.int .i64 1))), same (.len (.var 3)) (.len (.var 3))], [.var 0, .var 1, .bin .add (.var 2) (.con (.int .i64 1)), .var 3]) := by kernel_rfl
theorem noA3 : segTo Try.prog noOrc 10000 lpA shAl [1, 0, 0, 1] shAl [(0, 0), (1, 0)] = some (.normal, [.ok (.bin .lss (.var 2) (.var 1)), .is (.bin .lss (.var 2) (.var 1)) (.bool true), .idx (.var 0) (.var 2) 2 2, .idx (.var 0) (.var 2) 2 2, .ok (.cell (.var 0) (.var 2) 2 0), .ok (.cell (.var 0) (.var 2) 2 1), .ok (.slen (.cell (.var 0) (.var 2) 2 1)), .ok (.bin .lss (.slen (.cell (.var 0) (.var 2) 2 1)) (.con (.int .i64 1))), .is (.bin .lss (.slen (.cell (.var 0) (.var 2) 2 1)) (.con (.int .i64 1))) (.bool false), .ok (.bin .lss (.cell (.var 0) (.var 2) 2 0) (.con (.int .i64 0))), .is (.bin .lss (.cell (.var 0) (.var 2) 2 0) (.con (.int .i64 0))) (.bool false), .ok (.slen (.cell (.var 0) (.var 2) 2 1)), .ok (.bin .sub (.con (.int .i64 24)) (.slen (.cell (.var 0) (.var 2) 2 1))), .ok (.bin .gtr (.cell (.var 0) (.var 2) 2 0) (.bin .sub (.con (.int .i64 24)) (.slen (.cell (.var 0) (.var 2) 2 1)))), .is (.bin .gtr (.cell (.var 0) (.var 2) 2 0) (.bin .sub (.con (.int .i64 24)) (.slen (.cell (.var 0) (.var 2) 2 1)))) (.bool true), .ok (.bin .add (.var 2) (.con (.int .i64 1))), .ok (.var 1), .ok (.bin .add (.var 2) (.con (.int .i64 1))), same (.len (.var 3)) (.len (.var 3))], [.var 0, .var 1, .bin .add (.var 2) (.con (.int .i64 1)), .var 3]) := by kernel_rfl
theorem yesA : segTo Try.prog noOrc 10000 lpA shAl [1, 0, 0, 0] shAl [(0, 0), (1, 1)] = some (.normal, [.ok (.bin .lss (.var 2) (.var 1)), .is (.bin .lss (.var 2) (.var 1)) (.bool true), .idx (.var 0) (.var 2) 2 2, .idx (.var 0) (.var 2) 2 2, .ok (.cell (.var 0) (.var 2) 2 0), .ok (.cell (.var 0) (.var 2) 2 1), .ok (.slen (.cell (.var 0) (.var 2) 2 1)), .ok (.bin .lss (.slen (.cell (.var 0) (.var 2) 2 1)) (.con (.int .i64 1))), .is (.bin .lss (.slen (.cell (.var 0) (.var 2) 2 1)) (.con (.int .i64 1))) (.bool false), .ok (.bin .lss (.cell (.var 0) (.var 2) 2 0) (.con (.int .i64 0))), .is (.bin .lss (.cell (.var 0) (.var 2) 2 0) (.con (.int .i64 0))) (.bool false), .ok (.slen (.cell (.var 0) (.var 2) 2 1)), .ok (.bin .sub (.con (.int .i64 24)) (.slen (.cell (.var 0) (.var 2) 2 1))), .ok (.bin .gtr (.cell (.var 0) (.var 2) 2 0) (.bin .sub (.con (.int .i64 24)) (.slen (.cell (.var 0) (.var 2) 2 1)))), .is (.bin .gtr (.cell (.var 0) (.var 2) 2 0) (.bin .sub (.con (.int .i64 24)) (.slen (.cell (.var 0) (.var 2) 2 1)))) (.bool false), .ok (.slen (.cell (.var 0) (.var 2) 2 1)), .ok (.bin .add (.cell (.var 0) (.var 2) 2 0) (.slen (.cell (.var 0) (.var 2) 2 1))), .ok (.bin .sub (.bin .add (.cell (.var 0) (.var 2) 2 0) (.slen (.cell (.var 0) (.var 2) 2 1))) (.len (.var 3))), .ok (rop ROp.max2 [.con (.int .i64 0), .bin .sub (.bin .add (.cell (.var 0) (.var 2) 2 0) (.slen (.cell (.var 0) (.var 2) 2 1))) (.len (.var 3))]), upto (rop ROp.max2 [.con (.int .i64 0), .bin .sub (.bin .add (.cell (.var 0) (.var 2) 2 0) (.slen (.cell (.var 0) (.var 2) 2 1))) (.len (.var 3))]) 4294967296, same (.len (.var 3)) (.len (.var 3)), upto (.len (rop ROp.cat [.var 3, rop (ROp.rep [.int .u8 0]) [rop ROp.max2 [.con (.int .i64 0), .bin .sub (.bin .add (.cell (.var 0) (.var 2) 2 0) (.slen (.cell (.var 0) (.var 2) 2 1))) (.len (.var 3))]]])) 4294967296, same (.len (rop ROp.cat [.var 3, rop (ROp.rep [.int .u8 0]) [rop ROp.max2 [.con (.int .i64 0), .bin .sub (.bin .add (.cell (.var 0) (.var 2) 2 0) (.slen (.cell (.var 0) (.var 2) 2 1))) (.len (.var 3))]]])) (.len (rop ROp.cat [.var 3, rop (ROp.rep [.int .u8 0]) [rop ROp.max2 [.con (.int .i64 0), .bin .sub (.bin .add (.cell (.var 0) (.var 2) 2 0) (.slen (.cell (.var 0) (.var 2) 2 1))) (.len (.var 3))]]])), le3 (rop ROp.min2 [.cell (.var 0) (.var 2) 2 0, .cell (.var 0) (.var 2) 2 0]) (.len (rop ROp.cat [.var 3, rop (ROp.rep [.int .u8 0]) [rop ROp.max2 [.con (.int .i64 0), .bin .sub (.bin .add (.cell (.var 0) (.var 2) 2 0) (.slen (.cell (.var 0) (.var 2) 2 1))) (.len (.var 3))]]])) (.len (rop ROp.cat [.var 3, rop (ROp.rep [.int .u8 0]) [rop ROp.max2 [.con (.int .i64 0), .bin .sub (.bin .add (.cell (.var 0) (.var 2) 2 0) (.slen (.cell (.var 0) (.var 2) 2 1))) (.len (.var 3))]]])), rng (rop ROp.min2 [.cell (.var 0) (.var 2) 2 0, .cell (.var 0) (.var 2) 2 0]) (.len (rop ROp.cat [.var 3, rop (ROp.rep [.int .u8 0]) [rop ROp.max2 [.con (.int .i64 0), .bin .sub (.bin .add (.cell (.var 0) (.var 2) 2 0) (.slen (.cell (.var 0) (.var 2) 2 1))) (.len (.var 3))]]])), cut (rop ROp.min2 [.cell (.var 0) (.var 2) 2 0, .cell (.var 0) (.var 2) 2 0]) (.bin .sub (.len (rop ROp.cat [.var 3, rop (ROp.rep [.int .u8 0]) [rop ROp.max2 [.con (.int .i64 0), .bin .sub (.bin .add (.cell (.var 0) (.var 2) 2 0) (.slen (.cell (.var 0) (.var 2) 2 1))) (.len (.var 3))]]])) (rop ROp.min2 [.cell (.var 0) (.var 2) 2 0, .cell (.var 0) (.var 2) 2 0])) (.len (rop ROp.cat [.var 3, rop (ROp.rep [.int .u8 0]) [rop ROp.max2 [.con (.int .i64 0), .bin .sub (.bin .add (.cell (.var 0) (.var 2) 2 0) (.slen (.cell (.var 0) (.var 2) 2 1))) (.len (.var 3))]]])), .ok (.slen (.cell (.var 0) (.var 2) 2 1)), .ok (.bin .add (.var 2) (.con (.int .i64 1))), .ok (.var 1), .ok (.bin .add (.var 2) (.con (.int .i64 1))), same (.len (rop ROp.cat [.var 3, rop (ROp.rep [.int .u8 0]) [rop ROp.max2 [.con (.int .i64 0), .bin .sub (.bin .add (.cell (.var 0) (.var 2) 2 0) (.slen (.cell (.var 0) (.var 2) 2 1))) (.len (.var 3))]]])) (.len (rop (ROp.copy 1) [rop ROp.cat [.var 3, rop (ROp.rep [.int .u8 0]) [rop ROp.max2 [.con (.int .i64 0), .bin .sub (.bin .add (.cell (.var 0) (.var 2) 2 0) (.slen (.cell (.var 0) (.var 2) 2 1))) (.len (.var 3))]]], rop ROp.min2 [.cell (.var 0) (.var 2) 2 0, .cell (.var 0) (.var 2) 2 0], .bin .sub (.len (rop ROp.cat [.var 3, rop (ROp.rep [.int .u8 0]) [rop ROp.max2 [.con (.int .i64 0), .bin .sub (.bin .add (.cell (.var 0) (.var 2) 2 0) (.slen (.cell (.var 0) (.var 2) 2 1))) (.len (.var 3))]]])) (rop ROp.min2 [.cell (.var 0) (.var 2) 2 0, .cell (.var 0) (.var 2) 2 0]), rop ROp.ofStr [.cell (.var 0) (.var 2) 2 1]]))], [.var 0, .var 1, .bin .add (.var 2) (.con (.int .i64 1)), rop (ROp.copy 1) [rop ROp.cat [.var 3, rop (ROp.rep [.int .u8 0]) [rop ROp.max2 [.con (.int .i64 0), .bin .sub (.bin .add (.cell (.var 0) (.var 2) 2 0) (.slen (.cell (.var 0) (.var 2) 2 1))) (.len (.var 3))]]], rop ROp.min2 [.cell (.var 0) (.var 2) 2 0, .cell (.var 0) (.var 2) 2 0], .bin .sub (.len (rop ROp.cat [.var 3, rop (ROp.rep [.int .u8 0]) [rop ROp.max2 [.con (.int .i64 0), .bin .sub (.bin .add (.cell (.var 0) (.var 2) 2 0) (.slen (.cell (.var 0) (.var 2) 2 1))) (.len (.var 3))]]])) (rop ROp.min2 [.cell (.var 0) (.var 2) 2 0, .cell (.var 0) (.var 2) 2 0]), rop ROp.ofStr [.cell (.var 0) (.var 2) 2 1]]]) := by kernel_rfl
theorem postA : segTo Try.prog noOrc 10000 (flA.drop 4) shAl [] shAr [] = some (.ret, [same (.len (.var 3)) (.len (.var 3)), .ok (rop ROp.toStr [.var 3]), .ok (rop ROp.toStr [.var 3])], [rop ROp.toStr [.var 3]]) := by kernel_rfl

theorem cutA : flA = flA.take 3 ++ .block (blockId (nth flA 3)) (.loop (loopBody (nth flA 3))) :: flA.drop 4 := by kernel_rfl

def mayW (w : Int × ByteArray) : Bool := decide (1 ≤ w.2.size) && decide (0 ≤ w.1) && decide (w.1 ≤ 24 - (w.2.size : Int))
def grown (l : List UInt8) (n : Nat) : List UInt8 := l ++ List.replicate (n - l.length) 0
def over (m x : List UInt8) (o : Nat) : List UInt8 := m.take o ++ x ++ m.drop (o + x.length)
def putW (l : List UInt8) (w : Int × ByteArray) : List UInt8 := cond (mayW w) (over (grown l (w.1.toNat + w.2.size)) w.2.data.toList w.1.toNat) l
def allW (l : List UInt8) (ws : List (Int × ByteArray)) : List UInt8 := ws.foldl putW l
theorem putW_len (l : List UInt8) (w : Int × ByteArray) : (putW l w).length ≤ max l.length 24 := by
  unfold putW
  cases h : mayW w with
  | false => simp; omega
  | true =>
    simp only [mayW, Bool.and_eq_true, decide_eq_true_eq] at h
    have : w.2.data.toList.length = w.2.size := by simp
    simp only [cond_true, over, grown, List.length_append, List.length_take, List.length_drop, List.length_replicate, this]
    all_goals omega
theorem allW_len : ∀ (ws : List (Int × ByteArray)) (l : List UInt8), (allW l ws).length ≤ max l.length 24
  | [], l => by simp [allW]; omega
  | w :: ws, l => by
    have h1 := putW_len l w
    have h2 := allW_len ws (putW l w)
    simp only [allW, List.foldl_cons] at h2 ⊢
    omega

def RAll (ps qs : List PV) : Prop := ∃ (b : ByteArray) (ws : List (Int × ByteArray)), b.size ≤ 1000 ∧ ws.length ≤ 1000 ∧ (∀ w ∈ ws, -9223372036854775808 ≤ w.1 ∧ w.1 ≤ 9223372036854775807 ∧ w.2.size ≤ 1000000) ∧ ps = [pS b, pRow encW ws] ∧ qs = [pS ⟨(allW b.data.toList ws).toArray⟩]
def EAll (k : Nat) : FnE := { k := k, ins := [none, none], leaks := [false, false], outs := [none], kinds := [.num] }
theorem encW_inj : ∀ xs ys : List (Int × ByteArray), encW.all xs = encW.all ys → xs = ys
  | [], [], _ => rfl
  | [], _ :: _, h => by simp [Enc.all, encW] at h
  | _ :: _, [], h => by simp [Enc.all, encW] at h
  | x :: xs, y :: ys, h => by
    rw [Enc.all_cons, Enc.all_cons] at h
    obtain ⟨h1, h2⟩ := List.append_inj h (by rw [encW.len, encW.len])
    simp only [encW, List.cons.injEq, Value.int.injEq, Value.string.injEq, true_and, and_true] at h1
    rw [Prod.ext h1.1 h1.2, encW_inj xs ys h2]
theorem fAll : ∀ ps q1 q2, RAll ps q1 → RAll ps q2 → q1 = q2 := by
  rintro ps q1 q2 ⟨b, ws, _, _, _, rfl, rfl⟩ ⟨b', ws', _, _, _, h, rfl⟩
  simp only [List.cons.injEq, PV.v.injEq, Value.string.injEq, and_true] at h
  obtain ⟨rfl, h⟩ := h
  rw [pRow_inj encW_inj h]
theorem cellW (ws : List (Int × ByteArray)) (i : Nat) (h : i < ws.length) (j : Nat) (hj : j < 2) : cellPV (pRow encW ws) (pI (i : Int)) 2 j = ((encW.enc ws[i])[j]?).map .v := by
  rw [cellPV_row encW ws i .i64 2 j rfl h, all_cell encW ws i j ws[i] (List.getElem?_eq_getElem h) hj]
abbrev stL (ws : List (Int × ByteArray)) (i : Nat) (l : List UInt8) : List PV := [pRow encW ws, pI (ws.length : Int), pI (i : Int), pBy l]
set_option maxHeartbeats 2000000 in
theorem toldAll (k : Nat) : ToldF 66 (EAll k) (spec RAll) := by
  refine told_by (fun _ _ => none) _ (bodyOf Try.prog 66) Try.func66 (by kernel_rfl) shA (by kernel_rfl) ?_ ?_
  · intro ps qs h i hi
    obtain ⟨b, ws, _, _, _, rfl, rfl⟩ := of_spec h
    simp [shA] at hi
    match i, hi with
    | 0, hi => exact ⟨_, rfl, rfl⟩
    | 1, hi => simp at hi
    | i + 2, hi => simp at hi
  · intro C ps qs hF h a w hsh
    obtain ⟨b, ws, hb, hw, hwf, rfl, rfl⟩ := of_spec h
    show wpL Try.prog flA _ a w
    rw [cutA]
    refine seg_ok names_ok mixed_ok noOrc_ok preA hsh ?_ ?_
    · simp only [List.mem_cons, List.not_mem_nil, or_false, forall_eq_or_imp, forall_eq]
      simp [Base.ev, SX.ev, evs, lenPV_row, slenPV, r_ofStr, r_len, Value.oneCell']
      all_goals omega
    · intro qs a1 w1 hq h1
      refine ⟨fun _ => ?_, fun h => absurd rfl h⟩
      simp [evs, SX.ev, lenPV_row, r_ofStr] at hq
      subst hq
      refine block_loop (fun n a w => ∃ i, i ≤ ws.length ∧ n = ws.length - i ∧ InShape C shAl (stL ws i (allW b.data.toList (ws.take i))) a w) ?_ (n := ws.length) ⟨0, by omega, by omega, h1⟩
      rintro n a w ⟨i, hi, rfl, hin⟩
      show wpL Try.prog lpA _ a w
      rw [← List.append_nil lpA]
      have hL : (allW b.data.toList (ws.take i)).length ≤ 1000 := by
        have := allW_len (ws.take i) b.data.toList
        have hb' : b.data.toList.length = b.size := by simp
        omega
      by_cases hlt : i < ws.length
      · have hstep : allW b.data.toList (ws.take (i + 1)) = putW (allW b.data.toList (ws.take i)) ws[i] := by
          rw [List.take_add_one, List.getElem?_eq_getElem hlt]
          simp only [allW, Option.toList_some, List.foldl_append, List.foldl_cons, List.foldl_nil]
        have k0 : cellPV (pRow encW ws) (pI (i : Int)) 2 0 = some (pI ws[i].1) := by rw [cellW ws i hlt 0 (by omega)]; rfl
        have k1 : cellPV (pRow encW ws) (pI (i : Int)) 2 1 = some (pS ws[i].2) := by rw [cellW ws i hlt 1 (by omega)]; rfl
        obtain ⟨g1, g2, g3⟩ := hwf _ (List.getElem_mem hlt)
        generalize allW b.data.toList (ws.take i) = l at *
        have ix : (Fact.idx (var 0) (var 2) 2 2).holds (C.with (stL ws i l)) := idx_row encW ws i 2 2 rfl hlt (by decide)
        have w5 : IntKind.i64.wrap ((i : Int) + 1) = ((i + 1 : Nat) : Int) := by rw [wrapI _ (by omega) (by omega)]; rfl
        generalize ws[i] = x at *
        obtain ⟨o, s⟩ := x
        simp only at k0 k1 g1 g2 g3
        have done : ∀ l', l' = putW l (o, s) → ∀ a1 w1, InShape C shAl (stL ws (i + 1) l') a1 w1 → ∃ n', n' < ws.length - i ∧ ∃ j, j ≤ ws.length ∧ n' = ws.length - j ∧ InShape C shAl (stL ws j (allW b.data.toList (ws.take j))) a1 w1 := fun l' hl' a1 w1 h => ⟨ws.length - (i + 1), by omega, i + 1, by omega, rfl, by rw [hstep, ← hl']; exact h⟩
        have hlt' : (i : Int) < (ws.length : Int) := by omega
        by_cases c1 : s.size < 1
        · refine seg_ok names_ok mixed_ok noOrc_ok noA1 hin ?_ ?_
          · simp only [List.mem_cons, List.not_mem_nil, or_false, forall_eq_or_imp, forall_eq]
            simp [Base.ev, SX.ev, evs, lenPV_row, slenPV, r_len, binPV, Value.oneCell', hlt, k0, k1, ix]
            all_goals omega
          · intro qs a1 w1 hq h1
            refine ⟨fun _ => .inl ⟨rfl, ?_⟩, fun h => absurd rfl h⟩
            simp [evs, SX.ev, binPV, w5] at hq
            subst hq
            exact done l (by simp [putW, mayW, show ¬ (1 ≤ s.size) by omega]) a1 w1 h1
        · by_cases c2 : o < 0
          · refine seg_ok names_ok mixed_ok noOrc_ok noA2 hin ?_ ?_
            · simp only [List.mem_cons, List.not_mem_nil, or_false, forall_eq_or_imp, forall_eq]
              simp [Base.ev, SX.ev, evs, lenPV_row, slenPV, r_len, binPV, Value.oneCell', hlt, k0, k1, ix]
              all_goals omega
            · intro qs a1 w1 hq h1
              refine ⟨fun _ => .inl ⟨rfl, ?_⟩, fun h => absurd rfl h⟩
              simp [evs, SX.ev, binPV, w5] at hq
              subst hq
              exact done l (by simp [putW, mayW, show ¬ (0 ≤ o) by omega]) a1 w1 h1
          · have w3 : IntKind.i64.wrap (24 - (s.size : Int)) = 24 - (s.size : Int) := wrapI _ (by omega) (by omega)
            by_cases c3 : o > 24 - (s.size : Int)
            · refine seg_ok names_ok mixed_ok noOrc_ok noA3 hin ?_ ?_
              · simp only [List.mem_cons, List.not_mem_nil, or_false, forall_eq_or_imp, forall_eq]
                simp [Base.ev, SX.ev, evs, lenPV_row, slenPV, r_len, binPV, Value.oneCell', hlt, k0, k1, ix, w3]
                all_goals omega
              · intro qs a1 w1 hq h1
                refine ⟨fun _ => .inl ⟨rfl, ?_⟩, fun h => absurd rfl h⟩
                simp [evs, SX.ev, binPV, w5] at hq
                subst hq
                exact done l (by simp [putW, mayW, show ¬ (o ≤ 24 - (s.size : Int)) by omega]) a1 w1 h1
            · obtain ⟨n, rfl⟩ : ∃ n : Nat, o = (n : Int) := ⟨o.toNat, by omega⟩
              have w1' : IntKind.i64.wrap ((n : Int) + (s.size : Int)) = (n : Int) + (s.size : Int) := wrapI _ (by omega) (by omega)
              have w2' : IntKind.i64.wrap ((n : Int) + (s.size : Int) - (l.length : Int)) = (n : Int) + (s.size : Int) - (l.length : Int) := wrapI _ (by omega) (by omega)
              have hsl : s.data.toList.length = s.size := by simp
              obtain ⟨m, hm⟩ : ∃ m, m = l ++ List.replicate (max 0 ((n : Int) + (s.size : Int) - (l.length : Int))).toNat 0 := ⟨_, rfl⟩
              have hmg : m = grown l (n + s.size) := by rw [hm, grown]; congr 2; omega
              have hml : n + s.size ≤ m.length := by rw [hm]; simp; omega
              have hml2 : m.length ≤ 1100 := by rw [hm]; simp; omega
              have e1 : ropPV (.rep [.int .u8 0]) [pI (max 0 ((n : Int) + (s.size : Int) - (l.length : Int)))] = some (pBy (List.replicate (max 0 ((n : Int) + (s.size : Int) - (l.length : Int))).toNat 0)) := r_rep _ (by omega)
              have e2 : ropPV .cat [pBy l, pBy (List.replicate (max 0 ((n : Int) + (s.size : Int) - (l.length : Int))).toNat 0)] = some (pBy m) := by rw [hm]; exact r_cat _ _
              have w4 : IntKind.i64.wrap ((m.length : Int) - (n : Int)) = (m.length : Int) - (n : Int) := wrapI _ (by omega) (by omega)
              have e3 := r_copy m s.data.toList n (by omega)
              have e4 : (m.take n ++ s.data.toList ++ m.drop (n + s.data.toList.length)).length = m.length := by simp; omega
              have e5 : putW l ((n : Int), s) = m.take n ++ s.data.toList ++ m.drop (n + s.data.toList.length) := by
                have : mayW ((n : Int), s) = true := by simp [mayW]; omega
                simp only [putW, this, cond_true, over, Int.toNat_natCast, ← hmg]
              generalize m.take n ++ s.data.toList ++ m.drop (n + s.data.toList.length) = l' at *
              refine seg_ok names_ok mixed_ok noOrc_ok yesA hin ?_ ?_
              · clear done hstep hm hmg
                simp only [List.mem_cons, List.not_mem_nil, or_false, forall_eq_or_imp, forall_eq]
                simp [Base.ev, SX.ev, evs, lenPV_row, slenPV, r_len, r_ofStr, r_max, r_min, e1, e2, e3, binPV, Value.oneCell', hlt, k0, k1, ix, w1', w2', w3, w4, w5, e4]
                exact ⟨by omega, by omega, ⟨(max 0 ((n : Int) + (s.size : Int) - (l.length : Int))).toNat, by omega, by omega⟩, by omega, by omega, ⟨_, _, ⟨rfl, rfl⟩, by omega, by omega⟩, ⟨m.length - n, by omega, by omega⟩⟩
              · intro qs a1 w1 hq h1
                refine ⟨fun _ => .inl ⟨rfl, ?_⟩, fun h => absurd rfl h⟩
                simp [evs, SX.ev, slenPV, lenPV_row, r_len, r_ofStr, r_max, r_min, e1, e2, e3, binPV, k0, k1, w1', w2', w4, w5] at hq
                subst hq
                exact done l' e5.symm a1 w1 h1
      · have hie : i = ws.length := by omega
        refine seg_ok names_ok mixed_ok noOrc_ok exA hin ?_ ?_
        · simp only [List.mem_cons, List.not_mem_nil, or_false, forall_eq_or_imp, forall_eq]
          simp [Base.ev, SX.ev, evs, lenPV_row, r_len, binPV, Value.oneCell']
          all_goals omega
        · intro qs a1 w1 hq h1
          refine ⟨fun h => (by cases h), fun _ => .inr (.inl ⟨by rw [show blockId (nth flA 3) = 0 by kernel_rfl]; rfl, ?_⟩)⟩
          simp [evs, SX.ev] at hq
          subst hq
          rw [← List.append_nil (flA.drop 4)]
          refine seg_ok names_ok mixed_ok noOrc_ok postA h1 ?_ ?_
          · simp only [List.mem_cons, List.not_mem_nil, or_false, forall_eq_or_imp, forall_eq]
            simp [Base.ev, SX.ev, evs, r_len, r_toStr, Value.oneCell']
          · intro qs a2 w2 hq h2
            refine ⟨fun h => (by cases h), fun _ => ⟨.inr rfl, shAr, qs, [SX.var 0], h2, by kernel_rfl, ?_⟩⟩
            simp [evs, SX.ev, r_toStr] at hq ⊢
            subst hq
            rw [hie, List.take_length]
            simp
end Go.Proofs.Ytnelcjofgpplgaa.fil
