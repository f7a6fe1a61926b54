/- DiskLasts by the symbolic engine. -/
import Derived.Test.YteohdkilgigomaaSymD
import Derived.Test.YteohdkilgigomaaDskBegun
import Derived.Test.YteohdkilgigomaaDskLat
import Derived.Test.YteohdkilgigomaaFrame
namespace Go.Proofs.Yteohdkilgigomaa.diskLasts
open Go Go.RowKit eng dsk symD SX Fact
set_option linter.unusedVariables false
set_option linter.unusedSimpArgs false
set_option maxRecDepth 1000000

/-- A byte of a text. -/
def at8 (s : ByteArray) (k : Nat) : UInt8 := s.data.toList.getD k 0
theorem at8_put {b a : ByteArray} {n k : Nat} (hb : b.size = 32) (ha : a.size = 32) (hn : n ≤ 32) (hk : k < 32) : at8 (putAt b a n) k = if k < n then at8 b k else at8 a k := by
  have e : (putAt b a n).data.toList = b.data.toList.take n ++ a.data.toList.drop n := by
    have hal : a.data.toList.length = 32 := by simpa using ha
    simp only [putAt, ByteArray.data_append, Array.toList_append, ByteArray.data_extract, Array.toList_extract, List.extract_eq_take_drop]
    simp [List.take_of_length_le, hal]
  have hbl : b.data.toList.length = 32 := by simpa using hb
  have hal : a.data.toList.length = 32 := by simpa using ha
  unfold at8
  rw [e]
  split
  · rename_i h
    simp only [List.getD]
    rw [List.getElem?_append_left (by rw [List.length_take]; omega), List.getElem?_take, if_pos h]
  · rename_i h
    simp only [List.getD]
    rw [List.getElem?_append_right (by rw [List.length_take]; omega), List.getElem?_drop, List.length_take]
    rw [show n + (k - min n b.data.toList.length) = k by omega]
theorem lay_byte (f : Nat → Nat) (l : List ByteArray) (ps : List (Nat × ByteArray)) (i k : Nat) (hf : ∀ j, f j ≤ 32) (hl : ∀ s ∈ l, s.size = 32) (hp : ∀ p ∈ ps, p.1 < l.length ∧ p.2.size = 32) (hi : i < l.length) (hk : k < 32) : ∀ K, K ≤ ps.length →
    at8 ((layK f l ps K).getD i ByteArray.empty) k = at8 (l.getD i ByteArray.empty) k ∨ ∃ n, n < K ∧ (ps.getD n nop).1 = i ∧ at8 (ps.getD n nop).2 k = at8 ((layK f l ps K).getD i ByteArray.empty) k
  | 0, _ => .inl rfl
  | K + 1, hK => by
    have ih := lay_byte f l ps i k hf hl hp hi hk K (by omega)
    have hpm : ps.getD K nop ∈ ps := getD_mem' (by omega)
    obtain ⟨q1, q2⟩ := hp _ hpm
    have hsz := (layK_sizes (f := f) hf hl hp K (by omega))
    have hlen := layK_len f l ps K
    have hstep : layK f l ps (K + 1) = stepAt (layK f l ps K) (ps.getD K nop) (f K) := rfl
    by_cases h : (ps.getD K nop).1 = i
    · have hsi : ((layK f l ps K).getD (ps.getD K nop).1 ByteArray.empty).size = 32 := hsz _ (getD_mem' (by omega))
      have hg : (layK f l ps (K + 1)).getD i ByteArray.empty = putAt (ps.getD K nop).2 ((layK f l ps K).getD i ByteArray.empty) (f K) := by
        rw [hstep, stepAt, h]
        simp [List.getD, hlen, hi]
      rw [h] at hsi
      have hb := at8_put (b := (ps.getD K nop).2) (a := (layK f l ps K).getD i ByteArray.empty) (n := f K) (k := k) q2 hsi (hf K) hk
      rw [hg, hb]
      split
      · exact .inr ⟨K, by omega, h, rfl⟩
      · rcases ih with ih | ⟨n, h1, h2, h3⟩
        · exact .inl ih
        · exact .inr ⟨n, by omega, h2, h3⟩
    · have hg : (layK f l ps (K + 1)).getD i ByteArray.empty = (layK f l ps K).getD i ByteArray.empty := by
        rw [hstep, stepAt]
        generalize ps.getD K nop = p at h ⊢
        simp [List.getD, List.getElem?_set, h]
      rw [hg]
      rcases ih with ih | ⟨n, h1, h2, h3⟩
      · exact .inl ih
      · exact .inr ⟨n, by omega, h2, h3⟩
def RBegun (ps qs : List PV) : Prop := ps = [] ∧ qs = [pB true]
def EBegun : FnE := { k := 5, ins := [], leaks := [], outs := [none], kinds := [.truth] }
theorem fBegun : ∀ ps q1 q2, RBegun ps q1 → RBegun ps q2 → q1 = q2 := by
  rintro ps q1 q2 ⟨_, rfl⟩ ⟨_, rfl⟩; rfl
theorem toldBegun : ToldF 21 EBegun (spec RBegun) := by
  intro w FP us ps qs hs hul hpl hFP hrd
  obtain ⟨rfl, rfl⟩ := of_spec hs
  obtain rfl : us = [] := List.eq_nil_of_length_eq_zero (by simpa using hul)
  refine (begun_any5 w).mono ?_
  rintro e w' ⟨rfl, hex⟩
  refine ⟨[.bool true], rfl, rfl, fun j q u hq hu w2 _ => ?_, rfl, hex⟩
  match j, hq, hu with
  | 0, hq, hu => simp at hq hu; subst hq; subst hu; exact plain_reads rfl
  | j + 1, hq, hu => simp at hq

/-! Crash. -/
theorem encI_inj : ∀ xs ys : List Int, encI.all xs = encI.all ys → xs = ys
  | [], [], _ => rfl
  | [], _ :: _, h => by simp [Enc.all, encI] at h
  | _ :: _, [], h => by simp [Enc.all, encI] at h
  | x :: xs, y :: ys, h => by
    rw [Enc.all_cons, Enc.all_cons] at h
    obtain ⟨h1, h2⟩ := List.append_inj h (by rw [encI.len, encI.len])
    simp only [encI, List.cons.injEq, Value.int.injEq, true_and, and_true] at h1
    rw [h1, encI_inj xs ys h2]
def RCrash (ps qs : List PV) : Prop := ∃ (d : D) (keep : List Int), d.ok ∧ ps = pD d ++ [pRow encI keep] ∧ qs = pD (crashD d keep)
def ECrash (k : Nat) : FnE := { k := k, ins := [some 4, none], leaks := [], outs := [some 4], kinds := [.row, .row, .num, .num] }
theorem fCrash : ∀ ps q1 q2, RCrash ps q1 → RCrash ps q2 → q1 = q2 := by
  rintro ps q1 q2 ⟨d, i, _, rfl, rfl⟩ ⟨d', i', _, h, rfl⟩
  obtain ⟨rfl, h2⟩ := pD_app h
  injection h2 with h2 _
  rw [pRow_inj encI_inj h2]
theorem toldCrash (k : Nat) : ToldF 25 (ECrash k) (spec RCrash) := by
  intro w FP us ps qs hs hul hpl hFP hrd
  obtain ⟨d, keep, ok, rfl, rfl⟩ := of_spec hs
  obtain ⟨a, b, c, e, x, rfl⟩ := len5 hul
  have hd := isD_of (hrd 0 _ _ rfl rfl).1 (hrd 1 _ _ rfl rfl).1 (hrd 2 _ _ rfl rfl).1 (hrd 3 _ _ rfl rfl).1
  have h4 := (reads_row encI).1 (hrd 4 _ _ rfl rfl).1
  exact fin_D (crash_any _ x d keep w hd h4 ok)
def tab (f : FuncId) : Option FnE := cond (Nat.beq f 22) (some { k := 0, ins := [none], leaks := [], outs := [some 4], kinds := [.row, .row, .num, .num] }) (cond (Nat.beq f 23) (some { k := 1, ins := [some 4], leaks := [], outs := [some 4, none], kinds := [.row, .row, .num, .num, .truth] }) (cond (Nat.beq f 26) (some { k := 2, ins := [some 4, none], leaks := [], outs := [none, none], kinds := [.num, .truth] }) (cond (Nat.beq f 27) (some { k := 3, ins := [some 4, none, none], leaks := [], outs := [some 4, none], kinds := [.row, .row, .num, .num, .truth] }) (cond (Nat.beq f 29) (some { k := 4, ins := [none], leaks := [], outs := [none], kinds := [.num] }) (cond (Nat.beq f 21) (some { k := 5, ins := [], leaks := [], outs := [none], kinds := [.truth] }) (cond (Nat.beq f 25) (some { k := 6, ins := [some 4, none], leaks := [], outs := [some 4], kinds := [.row, .row, .num, .num] }) none))))))
noncomputable def fl := flat (bodyOf Try.prog 9)
noncomputable def b1 := flat (loopBody (nth fl 7))
noncomputable def b2 := flat (loopBody (nth fl 11))
noncomputable def b3 := flat (loopBody (nth fl 14))
def plainBody : Code → Code | .block _ b => b | _ => .skip
noncomputable def c3 := flat (plainBody (nth b3 2))
def bx : BoxT := ⟨28, 0, false, [.leaf, .leaf, .leaf, .leaf]⟩
def rw4 : List (Option Bool) := [some true, some true, none, none]
def sh0 : Shape := ⟨[(0, .leaf), (1, .leaf), (2, .leaf)], [], [some false, some false, some false], 184, 9⟩
def shA : Shape := ⟨[(0, .leaf), (1, .leaf), (2, .leaf), (7, .ptr 0 0 0 0), (8, .leaf)], [bx], [some false, some false, some false, none] ++ rw4, 184, 9⟩
def shB : Shape := ⟨[(1, .leaf), (2, .leaf), (7, .ptr 0 0 0 0), (9, .ptr 1 0 0 0), (10, .leaf)], [bx, bx], [some false, some false, none] ++ rw4 ++ rw4, 184, 9⟩
def shC : Shape := ⟨[(1, .leaf), (9, .ptr 0 0 0 0), (11, .ptr 1 0 0 0), (12, .leaf)], [bx, bx], [some false, none] ++ rw4 ++ rw4, 184, 9⟩
def shR : Shape := ⟨[(6, .leaf)], [], [none], 184, 9⟩
noncomputable def b4 := flat (loopBody (nth c3 5))
noncomputable def c4 := flat (plainBody (nth b4 2))
noncomputable def b5 := flat (loopBody (nth c4 2))
def shD : Shape := ⟨[(1, .leaf), (9, .ptr 0 0 0 0), (11, .ptr 1 0 0 0), (12, .leaf), (13, .leaf), (15, .leaf), (17, .leaf)], [bx, bx], [some false, none, none, none, none] ++ rw4 ++ rw4, 184, 9⟩
def shE : Shape := ⟨[(1, .leaf), (9, .ptr 0 0 0 0), (11, .ptr 1 0 0 0), (12, .leaf), (13, .leaf), (15, .leaf), (17, .leaf), (18, .leaf), (19, .leaf)], [bx, bx], [some false, none, none, none, none, none, none] ++ rw4 ++ rw4, 184, 9⟩
theorem preX1 : segTo Try.prog (orcFn tab) 10000 (fl.take 7) sh0 [1, 1] shR [] = some (.ret, [.fn 21 EBegun [], .is (.fn 5 [] 0) (.bool true), .ok (.len (.var 0)), .ok (.bin .gtr (.len (.var 0)) (.con (.int .i64 20))), .is (.bin .gtr (.len (.var 0)) (.con (.int .i64 20))) (.bool true), .ok (.con (.bool true))], [.con (.bool true)]) := by kernel_rfl
theorem preX2 : segTo Try.prog (orcFn tab) 10000 (fl.take 7) sh0 [1, 0, 1] shR [] = some (.ret, [.fn 21 EBegun [], .is (.fn 5 [] 0) (.bool true), .ok (.len (.var 0)), .ok (.bin .gtr (.len (.var 0)) (.con (.int .i64 20))), .is (.bin .gtr (.len (.var 0)) (.con (.int .i64 20))) (.bool false), .ok (.len (.var 1)), .ok (.bin .gtr (.len (.var 1)) (.con (.int .i64 10))), .is (.bin .gtr (.len (.var 1)) (.con (.int .i64 10))) (.bool true), .ok (.con (.bool true))], [.con (.bool true)]) := by kernel_rfl
theorem preX3 : segTo Try.prog (orcFn tab) 10000 (fl.take 7) sh0 [1, 0, 0, 1] shR [] = some (.ret, [.fn 21 EBegun [], .is (.fn 5 [] 0) (.bool true), .ok (.len (.var 0)), .ok (.bin .gtr (.len (.var 0)) (.con (.int .i64 20))), .is (.bin .gtr (.len (.var 0)) (.con (.int .i64 20))) (.bool false), .ok (.len (.var 1)), .ok (.bin .gtr (.len (.var 1)) (.con (.int .i64 10))), .is (.bin .gtr (.len (.var 1)) (.con (.int .i64 10))) (.bool false), .ok (.len (.var 2)), .ok (.bin .gtr (.len (.var 2)) (.con (.int .i64 10))), .is (.bin .gtr (.len (.var 2)) (.con (.int .i64 10))) (.bool true), .ok (.con (.bool true))], [.con (.bool true)]) := by kernel_rfl
theorem pre : segTo Try.prog (orcFn tab) 10000 (fl.take 7) sh0 [1, 0, 0, 0] shA [(5, 0)] = some (.normal, [.fn 21 EBegun [], .is (.fn 5 [] 0) (.bool true), .ok (.len (.var 0)), .ok (.bin .gtr (.len (.var 0)) (.con (.int .i64 20))), .is (.bin .gtr (.len (.var 0)) (.con (.int .i64 20))) (.bool false), .ok (.len (.var 1)), .ok (.bin .gtr (.len (.var 1)) (.con (.int .i64 10))), .is (.bin .gtr (.len (.var 1)) (.con (.int .i64 10))) (.bool false), .ok (.len (.var 2)), .ok (.bin .gtr (.len (.var 2)) (.con (.int .i64 10))), .is (.bin .gtr (.len (.var 2)) (.con (.int .i64 10))) (.bool false), .fn 22 (symD.ENew 0) [.con (.int .i64 5)], .ok (.fn 0 [.con (.int .i64 5)] 2), .ok (.fn 0 [.con (.int .i64 5)] 3), .ok (.con (.int .i64 0)), .ok (.fn 0 [.con (.int .i64 5)] 2), .ok (.fn 0 [.con (.int .i64 5)] 3)], [.var 0, .var 1, .var 2, .con (.int .i64 0), .fn 0 [.con (.int .i64 5)] 0, .fn 0 [.con (.int .i64 5)] 1, .fn 0 [.con (.int .i64 5)] 2, .fn 0 [.con (.int .i64 5)] 3]) := by kernel_rfl
theorem wr1 : segTo Try.prog (orcFn tab) 10000 b1 shA [1, 1] shA [(0, 0)] = some (.normal, [.ok (.len (.var 0)), .ok (.bin .lss (.var 3) (.len (.var 0))), .is (.bin .lss (.var 3) (.len (.var 0))) (.bool true), .idx (.var 0) (.var 3) 2 2, .idx (.var 0) (.var 3) 2 1, .ok (.cell (.var 0) (.var 3) 2 0), .ok (.bin .rem (.cell (.var 0) (.var 3) 2 0) (.con (.int .u8 5))), .ok (.conv .i64 (.bin .rem (.cell (.var 0) (.var 3) 2 0) (.con (.int .u8 5)))), .idx (.var 0) (.var 3) 2 2, .idx (.var 0) (.var 3) 2 2, .ok (.cell (.var 0) (.var 3) 2 1), .fn 29 (symD.ESec 4) [.cell (.var 0) (.var 3) 2 1], .ok (.fn 4 [.cell (.var 0) (.var 3) 2 1] 0), .fn 27 (symD.EWrite 3) [.var 4, .var 5, .var 6, .var 7, .conv .i64 (.bin .rem (.cell (.var 0) (.var 3) 2 0) (.con (.int .u8 5))), .fn 4 [.cell (.var 0) (.var 3) 2 1] 0], .ok (.fn 3 [.var 4, .var 5, .var 6, .var 7, .conv .i64 (.bin .rem (.cell (.var 0) (.var 3) 2 0) (.con (.int .u8 5))), .fn 4 [.cell (.var 0) (.var 3) 2 1] 0] 2), .ok (.fn 3 [.var 4, .var 5, .var 6, .var 7, .conv .i64 (.bin .rem (.cell (.var 0) (.var 3) 2 0) (.con (.int .u8 5))), .fn 4 [.cell (.var 0) (.var 3) 2 1] 0] 3), .is (.fn 3 [.var 4, .var 5, .var 6, .var 7, .conv .i64 (.bin .rem (.cell (.var 0) (.var 3) 2 0) (.con (.int .u8 5))), .fn 4 [.cell (.var 0) (.var 3) 2 1] 0] 4) (.bool true), .ok (.bin .add (.var 3) (.con (.int .i64 1))), .ok (.bin .add (.var 3) (.con (.int .i64 1))), .ok (.fn 3 [.var 4, .var 5, .var 6, .var 7, .conv .i64 (.bin .rem (.cell (.var 0) (.var 3) 2 0) (.con (.int .u8 5))), .fn 4 [.cell (.var 0) (.var 3) 2 1] 0] 2), .ok (.fn 3 [.var 4, .var 5, .var 6, .var 7, .conv .i64 (.bin .rem (.cell (.var 0) (.var 3) 2 0) (.con (.int .u8 5))), .fn 4 [.cell (.var 0) (.var 3) 2 1] 0] 3)], [.var 0, .var 1, .var 2, .bin .add (.var 3) (.con (.int .i64 1)), .fn 3 [.var 4, .var 5, .var 6, .var 7, .conv .i64 (.bin .rem (.cell (.var 0) (.var 3) 2 0) (.con (.int .u8 5))), .fn 4 [.cell (.var 0) (.var 3) 2 1] 0] 0, .fn 3 [.var 4, .var 5, .var 6, .var 7, .conv .i64 (.bin .rem (.cell (.var 0) (.var 3) 2 0) (.con (.int .u8 5))), .fn 4 [.cell (.var 0) (.var 3) 2 1] 0] 1, .fn 3 [.var 4, .var 5, .var 6, .var 7, .conv .i64 (.bin .rem (.cell (.var 0) (.var 3) 2 0) (.con (.int .u8 5))), .fn 4 [.cell (.var 0) (.var 3) 2 1] 0] 2, .fn 3 [.var 4, .var 5, .var 6, .var 7, .conv .i64 (.bin .rem (.cell (.var 0) (.var 3) 2 0) (.con (.int .u8 5))), .fn 4 [.cell (.var 0) (.var 3) 2 1] 0] 3]) := by kernel_rfl
theorem o1 : segTo Try.prog (orcFn tab) 10000 b1 shA [0] shA [(0, 0)] = some (.exit 0, [.ok (.len (.var 0)), .ok (.bin .lss (.var 3) (.len (.var 0))), .is (.bin .lss (.var 3) (.len (.var 0))) (.bool false), .ok (.var 3), .ok (.var 6), .ok (.var 7)], [.var 0, .var 1, .var 2, .var 3, .var 4, .var 5, .var 6, .var 7]) := by kernel_rfl
theorem mid : segTo Try.prog (orcFn tab) 10000 ((fl.drop 8).take 3) shA [1] shB [(0, 0), (8, 0)] = some (.normal, [.fn 23 (symD.EFlush 1) [.var 4, .var 5, .var 6, .var 7], .ok (.fn 1 [.var 4, .var 5, .var 6, .var 7] 2), .ok (.fn 1 [.var 4, .var 5, .var 6, .var 7] 3), .is (.fn 1 [.var 4, .var 5, .var 6, .var 7] 4) (.bool true), .ok (.con (.int .i64 0)), .ok (.fn 1 [.var 4, .var 5, .var 6, .var 7] 2), .ok (.fn 1 [.var 4, .var 5, .var 6, .var 7] 3), .ok (.fn 1 [.var 4, .var 5, .var 6, .var 7] 2), .ok (.fn 1 [.var 4, .var 5, .var 6, .var 7] 3)], [.var 1, .var 2, .con (.int .i64 0), .fn 1 [.var 4, .var 5, .var 6, .var 7] 0, .fn 1 [.var 4, .var 5, .var 6, .var 7] 1, .fn 1 [.var 4, .var 5, .var 6, .var 7] 2, .fn 1 [.var 4, .var 5, .var 6, .var 7] 3, .fn 1 [.var 4, .var 5, .var 6, .var 7] 0, .fn 1 [.var 4, .var 5, .var 6, .var 7] 1, .fn 1 [.var 4, .var 5, .var 6, .var 7] 2, .fn 1 [.var 4, .var 5, .var 6, .var 7] 3]) := by kernel_rfl
theorem wr2 : segTo Try.prog (orcFn tab) 10000 b2 shB [1, 1] shB [(0, 0), (1, 0)] = some (.normal, [.ok (.len (.var 0)), .ok (.bin .lss (.var 2) (.len (.var 0))), .is (.bin .lss (.var 2) (.len (.var 0))) (.bool true), .idx (.var 0) (.var 2) 2 2, .idx (.var 0) (.var 2) 2 1, .ok (.cell (.var 0) (.var 2) 2 0), .ok (.bin .rem (.cell (.var 0) (.var 2) 2 0) (.con (.int .u8 5))), .ok (.conv .i64 (.bin .rem (.cell (.var 0) (.var 2) 2 0) (.con (.int .u8 5)))), .idx (.var 0) (.var 2) 2 2, .idx (.var 0) (.var 2) 2 2, .ok (.cell (.var 0) (.var 2) 2 1), .fn 29 (symD.ESec 4) [.cell (.var 0) (.var 2) 2 1], .ok (.fn 4 [.cell (.var 0) (.var 2) 2 1] 0), .fn 27 (symD.EWrite 3) [.var 3, .var 4, .var 5, .var 6, .conv .i64 (.bin .rem (.cell (.var 0) (.var 2) 2 0) (.con (.int .u8 5))), .fn 4 [.cell (.var 0) (.var 2) 2 1] 0], .ok (.fn 3 [.var 3, .var 4, .var 5, .var 6, .conv .i64 (.bin .rem (.cell (.var 0) (.var 2) 2 0) (.con (.int .u8 5))), .fn 4 [.cell (.var 0) (.var 2) 2 1] 0] 2), .ok (.fn 3 [.var 3, .var 4, .var 5, .var 6, .conv .i64 (.bin .rem (.cell (.var 0) (.var 2) 2 0) (.con (.int .u8 5))), .fn 4 [.cell (.var 0) (.var 2) 2 1] 0] 3), .is (.fn 3 [.var 3, .var 4, .var 5, .var 6, .conv .i64 (.bin .rem (.cell (.var 0) (.var 2) 2 0) (.con (.int .u8 5))), .fn 4 [.cell (.var 0) (.var 2) 2 1] 0] 4) (.bool true), .ok (.bin .add (.var 2) (.con (.int .i64 1))), .ok (.bin .add (.var 2) (.con (.int .i64 1))), .ok (.fn 3 [.var 3, .var 4, .var 5, .var 6, .conv .i64 (.bin .rem (.cell (.var 0) (.var 2) 2 0) (.con (.int .u8 5))), .fn 4 [.cell (.var 0) (.var 2) 2 1] 0] 2), .ok (.fn 3 [.var 3, .var 4, .var 5, .var 6, .conv .i64 (.bin .rem (.cell (.var 0) (.var 2) 2 0) (.con (.int .u8 5))), .fn 4 [.cell (.var 0) (.var 2) 2 1] 0] 3), .ok (.var 9), .ok (.var 10)], [.var 0, .var 1, .bin .add (.var 2) (.con (.int .i64 1)), .fn 3 [.var 3, .var 4, .var 5, .var 6, .conv .i64 (.bin .rem (.cell (.var 0) (.var 2) 2 0) (.con (.int .u8 5))), .fn 4 [.cell (.var 0) (.var 2) 2 1] 0] 0, .fn 3 [.var 3, .var 4, .var 5, .var 6, .conv .i64 (.bin .rem (.cell (.var 0) (.var 2) 2 0) (.con (.int .u8 5))), .fn 4 [.cell (.var 0) (.var 2) 2 1] 0] 1, .fn 3 [.var 3, .var 4, .var 5, .var 6, .conv .i64 (.bin .rem (.cell (.var 0) (.var 2) 2 0) (.con (.int .u8 5))), .fn 4 [.cell (.var 0) (.var 2) 2 1] 0] 2, .fn 3 [.var 3, .var 4, .var 5, .var 6, .conv .i64 (.bin .rem (.cell (.var 0) (.var 2) 2 0) (.con (.int .u8 5))), .fn 4 [.cell (.var 0) (.var 2) 2 1] 0] 3, .var 7, .var 8, .var 9, .var 10]) := by kernel_rfl
theorem o2 : segTo Try.prog (orcFn tab) 10000 b2 shB [0] shB [(0, 0), (1, 0)] = some (.exit 2, [.ok (.len (.var 0)), .ok (.bin .lss (.var 2) (.len (.var 0))), .is (.bin .lss (.var 2) (.len (.var 0))) (.bool false), .ok (.var 2), .ok (.var 5), .ok (.var 6), .ok (.var 9), .ok (.var 10)], [.var 0, .var 1, .var 2, .var 3, .var 4, .var 5, .var 6, .var 7, .var 8, .var 9, .var 10]) := by kernel_rfl
theorem mid2 : segTo Try.prog (orcFn tab) 10000 ((fl.drop 12).take 2) shB [] shC [(1, 0), (10, 0)] = some (.normal, [.fn 25 (ECrash 6) [.var 3, .var 4, .var 5, .var 6, .var 1], .ok (.fn 6 [.var 3, .var 4, .var 5, .var 6, .var 1] 2), .ok (.fn 6 [.var 3, .var 4, .var 5, .var 6, .var 1] 3), .ok (.con (.int .i64 0)), .ok (.var 9), .ok (.var 10), .ok (.fn 6 [.var 3, .var 4, .var 5, .var 6, .var 1] 2), .ok (.fn 6 [.var 3, .var 4, .var 5, .var 6, .var 1] 3)], [.var 0, .con (.int .i64 0), .var 7, .var 8, .var 9, .var 10, .fn 6 [.var 3, .var 4, .var 5, .var 6, .var 1] 0, .fn 6 [.var 3, .var 4, .var 5, .var 6, .var 1] 1, .fn 6 [.var 3, .var 4, .var 5, .var 6, .var 1] 2, .fn 6 [.var 3, .var 4, .var 5, .var 6, .var 1] 3]) := by kernel_rfl
theorem i0 : segTo Try.prog (orcFn tab) 10000 (b3.take 2) shC [1] shC [(0, 0), (1, 0)] = some (.normal, [.ok (.bin .lss (.var 1) (.con (.int .i64 5))), .is (.bin .lss (.var 1) (.con (.int .i64 5))) (.bool true), .ok (.var 1), .ok (.var 4), .ok (.var 5), .ok (.var 8), .ok (.var 9)], [.var 0, .var 1, .var 2, .var 3, .var 4, .var 5, .var 6, .var 7, .var 8, .var 9]) := by kernel_rfl
theorem o3 : segTo Try.prog (orcFn tab) 10000 (b3.take 2) shC [0] shC [(0, 0), (1, 0)] = some (.exit 4, [.ok (.bin .lss (.var 1) (.con (.int .i64 5))), .is (.bin .lss (.var 1) (.con (.int .i64 5))) (.bool false), .ok (.var 1), .ok (.var 4), .ok (.var 5), .ok (.var 8), .ok (.var 9)], [.var 0, .var 1, .var 2, .var 3, .var 4, .var 5, .var 6, .var 7, .var 8, .var 9]) := by kernel_rfl
theorem rd : segTo Try.prog (orcFn tab) 10000 (c3.take 5) shC [1, 1, 0, 0] shD [(0, 0), (1, 0)] = some (.normal, [.fn 26 (symD.ERead 2) [.var 6, .var 7, .var 8, .var 9, .var 1], .ok (.fn 2 [.var 6, .var 7, .var 8, .var 9, .var 1] 0), .is (.fn 2 [.var 6, .var 7, .var 8, .var 9, .var 1] 1) (.bool true), .fn 26 (symD.ERead 2) [.var 2, .var 3, .var 4, .var 5, .var 1], .ok (.fn 2 [.var 2, .var 3, .var 4, .var 5, .var 1] 0), .is (.fn 2 [.var 2, .var 3, .var 4, .var 5, .var 1] 1) (.bool true), .ok (.slen (.fn 2 [.var 6, .var 7, .var 8, .var 9, .var 1] 0)), .ok (.bin .neq (.slen (.fn 2 [.var 6, .var 7, .var 8, .var 9, .var 1] 0)) (.con (.int .i64 32))), .is (.bin .neq (.slen (.fn 2 [.var 6, .var 7, .var 8, .var 9, .var 1] 0)) (.con (.int .i64 32))) (.bool false), .ok (.slen (.fn 2 [.var 2, .var 3, .var 4, .var 5, .var 1] 0)), .ok (.bin .neq (.slen (.fn 2 [.var 2, .var 3, .var 4, .var 5, .var 1] 0)) (.con (.int .i64 32))), .is (.bin .neq (.slen (.fn 2 [.var 2, .var 3, .var 4, .var 5, .var 1] 0)) (.con (.int .i64 32))) (.bool false), .ok (.var 1), .ok (.fn 2 [.var 6, .var 7, .var 8, .var 9, .var 1] 0), .ok (.fn 2 [.var 2, .var 3, .var 4, .var 5, .var 1] 0), .ok (.con (.int .i64 0)), .ok (.var 4), .ok (.var 5), .ok (.var 8), .ok (.var 9)], [.var 0, .var 1, .fn 2 [.var 6, .var 7, .var 8, .var 9, .var 1] 0, .fn 2 [.var 2, .var 3, .var 4, .var 5, .var 1] 0, .con (.int .i64 0), .var 2, .var 3, .var 4, .var 5, .var 6, .var 7, .var 8, .var 9]) := by kernel_rfl
theorem inc3 : segTo Try.prog (orcFn tab) 10000 (b3.drop 3) shC [] shC [(0, 0), (1, 0)] = some (.normal, [.ok (.bin .add (.var 1) (.con (.int .i64 1))), .ok (.bin .add (.var 1) (.con (.int .i64 1))), .ok (.var 4), .ok (.var 5), .ok (.var 8), .ok (.var 9)], [.var 0, .bin .add (.var 1) (.con (.int .i64 1)), .var 2, .var 3, .var 4, .var 5, .var 6, .var 7, .var 8, .var 9]) := by kernel_rfl
theorem k0 : segTo Try.prog (orcFn tab) 10000 (b4.take 2) shD [1] shD [(0, 0), (1, 0)] = some (.normal, [.ok (.bin .lss (.var 4) (.con (.int .i64 32))), .is (.bin .lss (.var 4) (.con (.int .i64 32))) (.bool true), .ok (.var 1), .ok (.var 2), .ok (.var 3), .ok (.var 4), .ok (.var 7), .ok (.var 8), .ok (.var 11), .ok (.var 12)], [.var 0, .var 1, .var 2, .var 3, .var 4, .var 5, .var 6, .var 7, .var 8, .var 9, .var 10, .var 11, .var 12]) := by kernel_rfl
theorem o4 : segTo Try.prog (orcFn tab) 10000 (b4.take 2) shD [0] shC [(0, 0), (1, 0)] = some (.exit 6, [.ok (.bin .lss (.var 4) (.con (.int .i64 32))), .is (.bin .lss (.var 4) (.con (.int .i64 32))) (.bool false), .ok (.var 1), .ok (.var 7), .ok (.var 8), .ok (.var 11), .ok (.var 12)], [.var 0, .var 1, .var 5, .var 6, .var 7, .var 8, .var 9, .var 10, .var 11, .var 12]) := by kernel_rfl
theorem eq : segTo Try.prog (orcFn tab) 10000 (c4.take 2) shD [1] shE [(0, 0), (1, 0)] = some (.normal, [.ok (.sidx (.var 2) (.var 4)), .ok (.sidx (.var 3) (.var 4)), .ok (.bin .eql (.sidx (.var 2) (.var 4)) (.sidx (.var 3) (.var 4))), .is (.bin .eql (.sidx (.var 2) (.var 4)) (.sidx (.var 3) (.var 4))) (.bool true), .ok (.var 1), .ok (.var 2), .ok (.var 3), .ok (.var 4), .ok (.con (.bool true)), .ok (.con (.int .i64 0)), .ok (.var 7), .ok (.var 8), .ok (.var 11), .ok (.var 12)], [.var 0, .var 1, .var 2, .var 3, .var 4, .con (.bool true), .con (.int .i64 0), .var 5, .var 6, .var 7, .var 8, .var 9, .var 10, .var 11, .var 12]) := by kernel_rfl
theorem ne : segTo Try.prog (orcFn tab) 10000 (c4.take 2) shD [0] shE [(0, 0), (1, 0)] = some (.normal, [.ok (.sidx (.var 2) (.var 4)), .ok (.sidx (.var 3) (.var 4)), .ok (.bin .eql (.sidx (.var 2) (.var 4)) (.sidx (.var 3) (.var 4))), .is (.bin .eql (.sidx (.var 2) (.var 4)) (.sidx (.var 3) (.var 4))) (.bool false), .ok (.var 1), .ok (.var 2), .ok (.var 3), .ok (.var 4), .ok (.con (.bool false)), .ok (.con (.int .i64 0)), .ok (.var 7), .ok (.var 8), .ok (.var 11), .ok (.var 12)], [.var 0, .var 1, .var 2, .var 3, .var 4, .con (.bool false), .con (.int .i64 0), .var 5, .var 6, .var 7, .var 8, .var 9, .var 10, .var 11, .var 12]) := by kernel_rfl
theorem inc4 : segTo Try.prog (orcFn tab) 10000 (b4.drop 3) shD [] shD [(0, 0), (1, 0)] = some (.normal, [.ok (.bin .add (.var 4) (.con (.int .i64 1))), .ok (.var 1), .ok (.var 2), .ok (.var 3), .ok (.bin .add (.var 4) (.con (.int .i64 1))), .ok (.var 7), .ok (.var 8), .ok (.var 11), .ok (.var 12)], [.var 0, .var 1, .var 2, .var 3, .bin .add (.var 4) (.con (.int .i64 1)), .var 5, .var 6, .var 7, .var 8, .var 9, .var 10, .var 11, .var 12]) := by kernel_rfl
theorem nT : segTo Try.prog (orcFn tab) 10000 b5 shE [1, 1] shE [(0, 0), (1, 0)] = some (.normal, [.ok (.len (.var 0)), .ok (.bin .lss (.var 6) (.len (.var 0))), .is (.bin .lss (.var 6) (.len (.var 0))) (.bool true), .is (.var 5) (.bool true), .ok (.bin .add (.var 6) (.con (.int .i64 1))), .ok (.var 1), .ok (.var 2), .ok (.var 3), .ok (.var 4), .ok (.con (.bool true)), .ok (.bin .add (.var 6) (.con (.int .i64 1))), .ok (.var 9), .ok (.var 10), .ok (.var 13), .ok (.var 14)], [.var 0, .var 1, .var 2, .var 3, .var 4, .con (.bool true), .bin .add (.var 6) (.con (.int .i64 1)), .var 7, .var 8, .var 9, .var 10, .var 11, .var 12, .var 13, .var 14]) := by kernel_rfl
theorem nF0 : segTo Try.prog (orcFn tab) 10000 b5 shE [1, 0, 0] shE [(0, 0), (1, 0)] = some (.normal, [.ok (.len (.var 0)), .ok (.bin .lss (.var 6) (.len (.var 0))), .is (.bin .lss (.var 6) (.len (.var 0))) (.bool true), .is (.var 5) (.bool false), .idx (.var 0) (.var 6) 2 2, .idx (.var 0) (.var 6) 2 1, .ok (.cell (.var 0) (.var 6) 2 0), .ok (.bin .rem (.cell (.var 0) (.var 6) 2 0) (.con (.int .u8 5))), .ok (.conv .i64 (.bin .rem (.cell (.var 0) (.var 6) 2 0) (.con (.int .u8 5)))), .ok (.bin .eql (.conv .i64 (.bin .rem (.cell (.var 0) (.var 6) 2 0) (.con (.int .u8 5)))) (.var 1)), .is (.bin .eql (.conv .i64 (.bin .rem (.cell (.var 0) (.var 6) 2 0) (.con (.int .u8 5)))) (.var 1)) (.bool false), .ok (.bin .add (.var 6) (.con (.int .i64 1))), .ok (.var 1), .ok (.var 2), .ok (.var 3), .ok (.var 4), .ok (.con (.bool false)), .ok (.bin .add (.var 6) (.con (.int .i64 1))), .ok (.var 9), .ok (.var 10), .ok (.var 13), .ok (.var 14)], [.var 0, .var 1, .var 2, .var 3, .var 4, .con (.bool false), .bin .add (.var 6) (.con (.int .i64 1)), .var 7, .var 8, .var 9, .var 10, .var 11, .var 12, .var 13, .var 14]) := by kernel_rfl
theorem nF10 : segTo Try.prog (orcFn tab) 10000 b5 shE [1, 0, 1, 0] shE [(0, 0), (1, 0)] = some (.normal, [.ok (.len (.var 0)), .ok (.bin .lss (.var 6) (.len (.var 0))), .is (.bin .lss (.var 6) (.len (.var 0))) (.bool true), .is (.var 5) (.bool false), .idx (.var 0) (.var 6) 2 2, .idx (.var 0) (.var 6) 2 1, .ok (.cell (.var 0) (.var 6) 2 0), .ok (.bin .rem (.cell (.var 0) (.var 6) 2 0) (.con (.int .u8 5))), .ok (.conv .i64 (.bin .rem (.cell (.var 0) (.var 6) 2 0) (.con (.int .u8 5)))), .ok (.bin .eql (.conv .i64 (.bin .rem (.cell (.var 0) (.var 6) 2 0) (.con (.int .u8 5)))) (.var 1)), .is (.bin .eql (.conv .i64 (.bin .rem (.cell (.var 0) (.var 6) 2 0) (.con (.int .u8 5)))) (.var 1)) (.bool true), .idx (.var 0) (.var 6) 2 2, .idx (.var 0) (.var 6) 2 2, .ok (.cell (.var 0) (.var 6) 2 1), .fn 29 (symD.ESec 4) [.cell (.var 0) (.var 6) 2 1], .ok (.fn 4 [.cell (.var 0) (.var 6) 2 1] 0), .ok (.sidx (.fn 4 [.cell (.var 0) (.var 6) 2 1] 0) (.var 4)), .ok (.sidx (.var 2) (.var 4)), .ok (.bin .eql (.sidx (.fn 4 [.cell (.var 0) (.var 6) 2 1] 0) (.var 4)) (.sidx (.var 2) (.var 4))), .is (.bin .eql (.sidx (.fn 4 [.cell (.var 0) (.var 6) 2 1] 0) (.var 4)) (.sidx (.var 2) (.var 4))) (.bool false), .ok (.bin .add (.var 6) (.con (.int .i64 1))), .ok (.var 1), .ok (.var 2), .ok (.var 3), .ok (.var 4), .ok (.con (.bool false)), .ok (.bin .add (.var 6) (.con (.int .i64 1))), .ok (.var 9), .ok (.var 10), .ok (.var 13), .ok (.var 14)], [.var 0, .var 1, .var 2, .var 3, .var 4, .con (.bool false), .bin .add (.var 6) (.con (.int .i64 1)), .var 7, .var 8, .var 9, .var 10, .var 11, .var 12, .var 13, .var 14]) := by kernel_rfl
theorem nF11 : segTo Try.prog (orcFn tab) 10000 b5 shE [1, 0, 1, 1] shE [(0, 0), (1, 0)] = some (.normal, [.ok (.len (.var 0)), .ok (.bin .lss (.var 6) (.len (.var 0))), .is (.bin .lss (.var 6) (.len (.var 0))) (.bool true), .is (.var 5) (.bool false), .idx (.var 0) (.var 6) 2 2, .idx (.var 0) (.var 6) 2 1, .ok (.cell (.var 0) (.var 6) 2 0), .ok (.bin .rem (.cell (.var 0) (.var 6) 2 0) (.con (.int .u8 5))), .ok (.conv .i64 (.bin .rem (.cell (.var 0) (.var 6) 2 0) (.con (.int .u8 5)))), .ok (.bin .eql (.conv .i64 (.bin .rem (.cell (.var 0) (.var 6) 2 0) (.con (.int .u8 5)))) (.var 1)), .is (.bin .eql (.conv .i64 (.bin .rem (.cell (.var 0) (.var 6) 2 0) (.con (.int .u8 5)))) (.var 1)) (.bool true), .idx (.var 0) (.var 6) 2 2, .idx (.var 0) (.var 6) 2 2, .ok (.cell (.var 0) (.var 6) 2 1), .fn 29 (symD.ESec 4) [.cell (.var 0) (.var 6) 2 1], .ok (.fn 4 [.cell (.var 0) (.var 6) 2 1] 0), .ok (.sidx (.fn 4 [.cell (.var 0) (.var 6) 2 1] 0) (.var 4)), .ok (.sidx (.var 2) (.var 4)), .ok (.bin .eql (.sidx (.fn 4 [.cell (.var 0) (.var 6) 2 1] 0) (.var 4)) (.sidx (.var 2) (.var 4))), .is (.bin .eql (.sidx (.fn 4 [.cell (.var 0) (.var 6) 2 1] 0) (.var 4)) (.sidx (.var 2) (.var 4))) (.bool true), .ok (.bin .add (.var 6) (.con (.int .i64 1))), .ok (.var 1), .ok (.var 2), .ok (.var 3), .ok (.var 4), .ok (.con (.bool true)), .ok (.bin .add (.var 6) (.con (.int .i64 1))), .ok (.var 9), .ok (.var 10), .ok (.var 13), .ok (.var 14)], [.var 0, .var 1, .var 2, .var 3, .var 4, .con (.bool true), .bin .add (.var 6) (.con (.int .i64 1)), .var 7, .var 8, .var 9, .var 10, .var 11, .var 12, .var 13, .var 14]) := by kernel_rfl
theorem o5 : segTo Try.prog (orcFn tab) 10000 b5 shE [0] shE [(0, 0), (1, 0)] = some (.exit 8, [.ok (.len (.var 0)), .ok (.bin .lss (.var 6) (.len (.var 0))), .is (.bin .lss (.var 6) (.len (.var 0))) (.bool false), .ok (.var 1), .ok (.var 2), .ok (.var 3), .ok (.var 4), .ok (.var 5), .ok (.var 6), .ok (.var 9), .ok (.var 10), .ok (.var 13), .ok (.var 14)], [.var 0, .var 1, .var 2, .var 3, .var 4, .var 5, .var 6, .var 7, .var 8, .var 9, .var 10, .var 11, .var 12, .var 13, .var 14]) := by kernel_rfl
theorem fin : segTo Try.prog (orcFn tab) 10000 (c4.drop 3) shE [1] shD [(0, 0), (1, 0)] = some (.normal, [.is (.var 5) (.bool true), .ok (.var 1), .ok (.var 2), .ok (.var 3), .ok (.var 4), .ok (.var 9), .ok (.var 10), .ok (.var 13), .ok (.var 14)], [.var 0, .var 1, .var 2, .var 3, .var 4, .var 7, .var 8, .var 9, .var 10, .var 11, .var 12, .var 13, .var 14]) := by kernel_rfl
theorem post : segTo Try.prog (orcFn tab) 10000 (fl.drop 15) shC [1, 0, 1] shR [] = some (.ret, [.ok (.len (.var 7)), .ok (.bin .eql (.len (.var 7)) (.con (.int .i64 0))), .is (.bin .eql (.len (.var 7)) (.con (.int .i64 0))) (.bool true), .is (.var 9) (.bool false), .ok (.bin .eql (.var 8) (.con (.int .i64 0))), .is (.bin .eql (.var 8) (.con (.int .i64 0))) (.bool true), .ok (.con (.bool true))], [.con (.bool true)]) := by kernel_rfl
theorem cut1 : fl = fl.take 7 ++ .block (blockId (nth fl 7)) (.loop (loopBody (nth fl 7))) :: ((fl.drop 8).take 3 ++ .block (blockId (nth fl 11)) (.loop (loopBody (nth fl 11))) :: ((fl.drop 12).take 2 ++ .block (blockId (nth fl 14)) (.loop (loopBody (nth fl 14))) :: fl.drop 15)) := by kernel_rfl
theorem cut3 : b3 = b3.take 2 ++ .block (blockId (nth b3 2)) (plainBody (nth b3 2)) :: b3.drop 3 := by kernel_rfl
theorem cutc3 : c3 = c3.take 5 ++ .block (blockId (nth c3 5)) (.loop (loopBody (nth c3 5))) :: [] := by kernel_rfl
theorem cut4 : b4 = b4.take 2 ++ .block (blockId (nth b4 2)) (plainBody (nth b4 2)) :: b4.drop 3 := by kernel_rfl
theorem cutc4 : c4 = c4.take 2 ++ .block (blockId (nth c4 2)) (.loop (loopBody (nth c4 2))) :: c4.drop 3 := by kernel_rfl
theorem id1 : blockId (nth fl 7) = 0 := by kernel_rfl
theorem id2 : blockId (nth fl 11) = 2 := by kernel_rfl
theorem id3 : blockId (nth fl 14) = 4 := by kernel_rfl
theorem id4 : blockId (nth c3 5) = 6 := by kernel_rfl
theorem id5 : blockId (nth c4 2) = 8 := by kernel_rfl
theorem block_plain {P : Program} {id : Nat} {b : Code} {k : List Code} {Q : Exit → Act → World → Prop} {a : Act} {w : World} (h : wpL P (flat b) (fun e a w => e = .normal ∧ wpL P k Q a w) a w) : wpL P (.block id b :: k) Q a w := by
  refine wp_block (wp_mono (wp_of_flat h) ?_)
  rintro e a w ⟨rfl, h⟩
  exact h
noncomputable def F : Fns := fun k => match k with | 0 => spec RNew | 1 => spec RFlush | 2 => spec RRead | 3 => spec RWrite | 4 => spec symD.RSec | 5 => spec RBegun | 6 => spec RCrash | _ => fun _ => none
theorem t0 : ToldF 22 (ENew 0) (F 0) := toldNew 0
theorem t1 : ToldF 23 (EFlush 1) (F 1) := toldFlush 1
theorem t2 : ToldF 26 (ERead 2) (F 2) := toldRead 2
theorem t3 : ToldF 27 (EWrite 3) (F 3) := toldWrite 3
theorem t4 : ToldF 29 (ESec 4) (F 4) := toldSec 4
theorem t5 : ToldF 21 EBegun (F 5) := toldBegun
theorem t6 : ToldF 25 (ECrash 6) (F 6) := toldCrash 6
@[simp] theorem kNew (k : Nat) : (ENew k).k = k := rfl
@[simp] theorem kFlush (k : Nat) : (EFlush k).k = k := rfl
@[simp] theorem kRead (k : Nat) : (ERead k).k = k := rfl
@[simp] theorem kWrite (k : Nat) : (EWrite k).k = k := rfl
@[simp] theorem kSec (k : Nat) : (ESec k).k = k := rfl
@[simp] theorem kCrash (k : Nat) : (ECrash k).k = k := rfl
@[simp] theorem kBegun : EBegun.k = 5 := rfl
@[simp] theorem holds_fn (B : Base) (f : FuncId) (E : FnE) (es : List SX) : (Fact.fn f E es).holds B ↔ ToldF f E (B.F E.k) ∧ ∃ ps qs, evs B.s B.F es = some ps ∧ B.F E.k ps = some qs := Iff.rfl
theorem F0 : F 0 [pI 5] = some [pRow encS (newD 5).last, pRow encP (newD 5).wait, pI ((newD 5).arm : Int), pB (newD 5).down] := spec_of fNew ⟨5, rfl, rfl⟩
theorem F1 {d d' : D} (ok : d.ok) (h : flush2 d = (d', true)) : F 1 [pRow encS d.last, pRow encP d.wait, pI (d.arm : Int), pB d.down] = some [pRow encS d'.last, pRow encP d'.wait, pI (d'.arm : Int), pB d'.down, pB true] := spec_of fFlush ⟨d, ok, rfl, by rw [h]; rfl⟩
theorem F2 {d : D} {i : Int} {s : ByteArray} (ok : d.ok) (h : readD d i = (s, true)) : F 2 [pRow encS d.last, pRow encP d.wait, pI (d.arm : Int), pB d.down, pI i] = some [pS s, pB true] := spec_of fRead ⟨d, i, ok, rfl, by rw [h]⟩
theorem F3 {d d' : D} {i : Int} {s : ByteArray} (ok : d.ok) (h : writeD d i s = (d', true)) : F 3 [pRow encS d.last, pRow encP d.wait, pI (d.arm : Int), pB d.down, pI i, pS s] = some [pRow encS d'.last, pRow encP d'.wait, pI (d'.arm : Int), pB d'.down, pB true] := spec_of fWrite ⟨d, i, s, ok, rfl, by rw [h]; rfl⟩
theorem F4 {n : Nat} (h : n < 256) : F 4 [pU (n : Int)] = some [pS (sec.sec n)] := spec_of fSec ⟨n, h, rfl, rfl⟩
theorem F5 : F 5 [] = some [pB true] := spec_of fBegun ⟨rfl, rfl⟩
theorem F6 {d : D} {keep : List Int} (ok : d.ok) : F 6 [pRow encS d.last, pRow encP d.wait, pI (d.arm : Int), pB d.down, pRow encI keep] = some [pRow encS (crashD d keep).last, pRow encP (crashD d keep).wait, pI ((crashD d keep).arm : Int), pB (crashD d keep).down] := spec_of fCrash ⟨d, keep, ok, rfl, rfl⟩
def enc2 : Enc (Nat × Nat) := { sz := 2, enc := fun p => [.int .u8 (p.1 : Int), .int .u8 (p.2 : Int)], len := fun _ => rfl, one := fun _ u hu => by simp at hu; rcases hu with rfl | rfl <;> rfl, pos := by decide }
theorem cell2 (l : List (Nat × Nat)) (i : Nat) (h : i < l.length) (j : Nat) (hj : j < 2) : cellPV (pRow enc2 l) (pI (i : Int)) 2 j = ((enc2.enc l[i])[j]?).map .v := by
  rw [cellPV_row enc2 l i .i64 2 j rfl h, all_cell enc2 l i j l[i] (List.getElem?_eq_getElem h) hj]
theorem sidx_at {s : ByteArray} {k : Nat} (hs : s.size = 32) (hk : k < 32) : sidxPV (pS s) (pI (k : Int)) = some (pU ((at8 s k).toNat : Int)) := by
  have h0 : (0 : Int) ≤ (k : Int) := by omega
  have hk' : k < s.size := by omega
  have hl : k < s.data.toList.length := by simpa using hk'
  simp only [sidxPV, h0, if_true, Int.toNat_natCast]
  have : s[k]? = some (at8 s k) := by
    rw [getElem?_pos s k hk']
    simp only [at8, List.getD, List.getElem?_eq_getElem hl, Option.getD_some]
    rfl
  rw [this]
  rfl
def R (ps qs : List PV) : Prop := ∃ (l m : List (Nat × Nat)) (keep : List Int), (∀ p ∈ l, p.1 < 256 ∧ p.2 < 256) ∧ (∀ p ∈ m, p.1 < 256 ∧ p.2 < 256) ∧ ps = [pRow enc2 l, pRow enc2 m, pRow encI keep] ∧ qs = [pB true]
def E (k : Nat) : FnE := { k := k, ins := [none, none, none], leaks := [], outs := [none], kinds := [.truth] }
abbrev stA (l m : List (Nat × Nat)) (keep : List Int) (k : Nat) (d : D) : List PV := [pRow enc2 l, pRow enc2 m, pRow encI keep, pI (k : Int), pRow encS d.last, pRow encP d.wait, pI (d.arm : Int), pB d.down]
abbrev stB (m : List (Nat × Nat)) (keep : List Int) (k : Nat) (d e : D) : List PV := [pRow enc2 m, pRow encI keep, pI (k : Int), pRow encS d.last, pRow encP d.wait, pI (d.arm : Int), pB d.down, pRow encS e.last, pRow encP e.wait, pI (e.arm : Int), pB e.down]
abbrev stC (m : List (Nat × Nat)) (i : Nat) (e x : D) : List PV := [pRow enc2 m, pI (i : Int), pRow encS e.last, pRow encP e.wait, pI (e.arm : Int), pB e.down, pRow encS x.last, pRow encP x.wait, pI (x.arm : Int), pB x.down]
abbrev stD (m : List (Nat × Nat)) (i : Nat) (s t : ByteArray) (k : Nat) (e x : D) : List PV := [pRow enc2 m, pI (i : Int), pS s, pS t, pI (k : Int), pRow encS e.last, pRow encP e.wait, pI (e.arm : Int), pB e.down, pRow encS x.last, pRow encP x.wait, pI (x.arm : Int), pB x.down]
abbrev stE (m : List (Nat × Nat)) (i : Nat) (s t : ByteArray) (k : Nat) (one : Bool) (n : Nat) (e x : D) : List PV := [pRow enc2 m, pI (i : Int), pS s, pS t, pI (k : Int), pB one, pI (n : Int), pRow encS e.last, pRow encP e.wait, pI (e.arm : Int), pB e.down, pRow encS x.last, pRow encP x.wait, pI (x.arm : Int), pB x.down]

/-- What is left of a disk behind the crash. -/
structure Left (m : List (Nat × Nat)) (e x : D) : Prop where
  fe : Fine e 5
  fx : Fine x 5
  none : x.wait = []
  byte : ∀ i, i < 5 → ∀ k, k < 32 → at8 (latest x i) k = at8 (latest e i) k ∨ ∃ j, j < m.length ∧ (m.getD j (0, 0)).1 % 5 = i ∧ at8 (sec.sec (m.getD j (0, 0)).2) k = at8 (latest x i) k
theorem left {m : List (Nat × Nat)} {d e : D} (keep : List Int) (hd : Fine d 5) (he : Fine e 5) (hw : e.wait.length = 0) (hl : d.last = e.last) (hm : d.wait = m.map fun p => (p.1 % 5, sec.sec p.2)) : Left m e (crashD d keep) := by
  refine ⟨he, ⟨ok_crash hd.ok keep, rfl, rfl, by simp only [crashD, layK_len]; exact hd.n⟩, rfl, fun i hi k hk => ?_⟩
  have hlat : latest (crashD d keep) i = (layK (keepAt keep) d.last d.wait d.wait.length).getD i ByteArray.empty := rfl
  have hlat2 : latest e i = e.last.getD i ByteArray.empty := by simp [latest, hw, latK]
  have := lay_byte (keepAt keep) d.last d.wait i k (keepAt_le keep) hd.ok.len hd.ok.wlen (by rw [hd.n]; exact hi) hk d.wait.length (Nat.le_refl _)
  rw [hlat, hlat2, ← hl]
  rcases this with h | ⟨n, h1, h2, h3⟩
  · exact .inl h
  · have hn : n < m.length := by rw [hm, List.length_map] at h1; exact h1
    have hg : d.wait.getD n nop = ((m.getD n (0, 0)).1 % 5, sec.sec (m.getD n (0, 0)).2) := by rw [hm]; simp [List.getD, hn]
    rw [hg] at h2 h3
    exact .inr ⟨n, hn, h2, h3⟩

/-- The innermost loop, and what is behind it: from a byte's comparison to the next byte. -/
theorem loop5 {C : Base} (hF : C.F = F) {m : List (Nat × Nat)} (hml : m.length ≤ 10) (hm : ∀ p ∈ m, p.1 < 256 ∧ p.2 < 256) {e x : D} (hx : Left m e x) {i k : Nat} (hi : i < 5) (hk : k < 32) {s t : ByteArray} (hs : latest x i = s) (ht : latest e i = t) (hs2 : s.size = 32) (ht2 : t.size = 32) {one : Bool} (h1 : one = decide (at8 s k = at8 t k)) {a : Act} {w : World}
    (hin : InShape C shE (stE m i s t k one 0 e x) a w) {Q : Exit → Act → World → Prop} (hQ : ∀ a w, InShape C shD (stD m i s t k e x) a w → Q .normal a w) : wpL Try.prog (.block (blockId (nth c4 2)) (.loop (loopBody (nth c4 2))) :: c4.drop 3) Q a w := by
  refine block_loop (fun q a w => ∃ n one, n ≤ m.length ∧ q = m.length - n ∧ (one = true ↔ (at8 s k = at8 t k ∨ ∃ j, j < n ∧ (m.getD j (0, 0)).1 % 5 = i ∧ at8 (sec.sec (m.getD j (0, 0)).2) k = at8 s k)) ∧ InShape C shE (stE m i s t k one n e x) a w) ?_ (n := m.length) ⟨0, one, by omega, by omega, by rw [h1]; simp, hin⟩
  rintro q a w ⟨n, one, hn, rfl, hone, hin⟩
  show wpL Try.prog b5 _ a w
  rw [← List.append_nil b5]
  by_cases hlt : n < m.length
  · obtain ⟨q1, q2⟩ := hm m[n] (List.getElem_mem hlt)
    have hgd : m.getD n (0, 0) = m[n] := by simp [List.getD, hlt]
    have c0 : cellPV (pRow enc2 m) (pI (n : Int)) 2 0 = some (pU (m[n].1 : Int)) := by rw [cell2 m n hlt 0 (by omega)]; rfl
    have c1 : cellPV (pRow enc2 m) (pI (n : Int)) 2 1 = some (pU (m[n].2 : Int)) := by rw [cell2 m n hlt 1 (by omega)]; rfl
    have i1 : (Fact.idx (var 0) (var 6) 2 1).holds (C.with (stE m i s t k one n e x)) := idx_row enc2 m n 2 1 rfl hlt (by decide)
    have i2 : (Fact.idx (var 0) (var 6) 2 2).holds (C.with (stE m i s t k one n e x)) := idx_row enc2 m n 2 2 rfl hlt (by decide)
    have step : ∀ one' : Bool, (one' = true ↔ (one = true ∨ (m[n].1 % 5 = i ∧ at8 (sec.sec m[n].2) k = at8 s k))) → (one' = true ↔ (at8 s k = at8 t k ∨ ∃ j, j < n + 1 ∧ (m.getD j (0, 0)).1 % 5 = i ∧ at8 (sec.sec (m.getD j (0, 0)).2) k = at8 s k)) := by
      intro one' h
      rw [h, hone]
      constructor
      · rintro ((h | ⟨j, j1, j2, j3⟩) | ⟨j2, j3⟩)
        · exact .inl h
        · exact .inr ⟨j, by omega, j2, j3⟩
        · exact .inr ⟨n, by omega, by rw [hgd]; exact j2, by rw [hgd]; exact j3⟩
      · rintro (h | ⟨j, j1, j2, j3⟩)
        · exact .inl (.inl h)
        · by_cases hjn : j = n
          · subst hjn
            rw [hgd] at j2 j3
            exact .inr ⟨j2, j3⟩
          · exact .inl (.inr ⟨j, by omega, j2, j3⟩)
    generalize m[n].1 = u at *
    generalize m[n].2 = z at *
    obtain ⟨r, hr⟩ : ∃ r, u % 5 = r := ⟨_, rfl⟩
    have hu : ((u : Int).tmod 5) = (r : Int) := by
      have : ((u : Int).tmod 5) = ((u % 5 : Nat) : Int) := rfl
      rw [this, hr]
    have hw : IntKind.i64.wrap (r : Int) = (r : Int) := wrapI _ (by omega) (by omega)
    rw [hr] at step
    have g4 := F4 q2
    have s1 := sidx_at hs2 hk
    have s2 := sidx_at (sec.sec_size z) hk
    cases one with
    | true =>
      refine seg_ok names_ok mixed_ok (orcFn_ok _) nT hin ?_ ?_
      · simp only [List.mem_cons, List.not_mem_nil, or_false, forall_eq_or_imp, forall_eq]
        simp [Base.ev, SX.ev, evs, lenPV_row, binPV, Value.oneCell', hlt]
      · intro qs a2 w2 hq h2
        refine ⟨fun _ => ?_, fun h => absurd rfl h⟩
        simp [evs, SX.ev, binPV] at hq
        subst hq
        rw [wrapI _ (by omega) (by omega)] at h2
        exact .inl ⟨rfl, m.length - (n + 1), by omega, n + 1, true, by omega, rfl, step true (by simp), h2⟩
    | false =>
      by_cases hri : r = i
      · subst hri
        by_cases hb : at8 (sec.sec z) k = at8 s k
        · refine seg_ok names_ok mixed_ok (orcFn_ok _) nF11 hin ?_ ?_
          · simp only [List.mem_cons, List.not_mem_nil, or_false, forall_eq_or_imp, forall_eq]
            simp [Base.ev, SX.ev, evs, lenPV_row, binPV, convPV, Value.oneCell', hF, hlt, c0, c1, i1, i2, hu, hw, g4, t4, s1, s2, hb]
          · intro qs a2 w2 hq h2
            refine ⟨fun _ => ?_, fun h => absurd rfl h⟩
            simp [evs, SX.ev, binPV] at hq
            subst hq
            rw [wrapI _ (by omega) (by omega)] at h2
            exact .inl ⟨rfl, m.length - (n + 1), by omega, n + 1, true, by omega, rfl, step true (by simp [hb]), h2⟩
        · have hb' : ¬ (at8 (sec.sec z) k).toNat = (at8 s k).toNat := fun h => hb (UInt8.toNat_inj.1 h)
          refine seg_ok names_ok mixed_ok (orcFn_ok _) nF10 hin ?_ ?_
          · simp only [List.mem_cons, List.not_mem_nil, or_false, forall_eq_or_imp, forall_eq]
            simp [Base.ev, SX.ev, evs, lenPV_row, binPV, convPV, Value.oneCell', hF, hlt, c0, c1, i1, i2, hu, hw, g4, t4, s1, s2, hb, hb']
            omega
          · intro qs a2 w2 hq h2
            refine ⟨fun _ => ?_, fun h => absurd rfl h⟩
            simp [evs, SX.ev, binPV] at hq
            subst hq
            rw [wrapI _ (by omega) (by omega)] at h2
            exact .inl ⟨rfl, m.length - (n + 1), by omega, n + 1, false, by omega, rfl, step false (by simp [hb]), h2⟩
      · refine seg_ok names_ok mixed_ok (orcFn_ok _) nF0 hin ?_ ?_
        · simp only [List.mem_cons, List.not_mem_nil, or_false, forall_eq_or_imp, forall_eq]
          simp [Base.ev, SX.ev, evs, lenPV_row, binPV, convPV, Value.oneCell', hF, hlt, c0, c1, i1, i2, hu, hw, hri]
          omega
        · intro qs a2 w2 hq h2
          refine ⟨fun _ => ?_, fun h => absurd rfl h⟩
          simp [evs, SX.ev, binPV] at hq
          subst hq
          rw [wrapI _ (by omega) (by omega)] at h2
          exact .inl ⟨rfl, m.length - (n + 1), by omega, n + 1, false, by omega, rfl, step false (by simp [hri]), h2⟩
  · have hnm : n = m.length := by omega
    subst hnm
    have h1 : one = true := hone.2 (by
      rcases hx.byte i hi k hk with h | h
      · rw [hs, ht] at h; exact .inl h
      · rw [hs] at h; exact .inr h)
    subst h1
    refine seg_ok names_ok mixed_ok (orcFn_ok _) o5 hin ?_ ?_
    · simp only [List.mem_cons, List.not_mem_nil, or_false, forall_eq_or_imp, forall_eq]
      simp [Base.ev, SX.ev, lenPV_row, binPV, Value.oneCell']
    · intro qs a2 w2 hq h2
      refine ⟨fun h => (by cases h), fun _ => .inr (.inl ⟨by rw [id5]; rfl, ?_⟩)⟩
      simp [evs, SX.ev] at hq
      subst hq
      rw [← List.append_nil (c4.drop 3)]
      refine seg_ok names_ok mixed_ok (orcFn_ok _) fin h2 ?_ ?_
      · simp only [List.mem_cons, List.not_mem_nil, or_false, forall_eq_or_imp, forall_eq]
        simp [Base.ev, SX.ev, Value.oneCell']
      · intro qs a3 w3 hq h3
        refine ⟨fun _ => ?_, fun h => absurd rfl h⟩
        simp [evs, SX.ev] at hq
        subst hq
        exact hQ _ _ h3

/-- A sector's bytes. -/
theorem loop4 {C : Base} (hF : C.F = F) {m : List (Nat × Nat)} (hml : m.length ≤ 10) (hm : ∀ p ∈ m, p.1 < 256 ∧ p.2 < 256) {e x : D} (hx : Left m e x) {i : Nat} (hi : i < 5) {s t : ByteArray} (hs : latest x i = s) (ht : latest e i = t) (hs2 : s.size = 32) (ht2 : t.size = 32) {a : Act} {w : World}
    (hin : InShape C shD (stD m i s t 0 e x) a w) {Q : Exit → Act → World → Prop} (hQ : ∀ a w, InShape C shC (stC m i e x) a w → Q .normal a w) : wpL Try.prog (.block (blockId (nth c3 5)) (.loop (loopBody (nth c3 5))) :: []) Q a w := by
  refine block_loop (fun q a w => ∃ k, k ≤ 32 ∧ q = 32 - k ∧ InShape C shD (stD m i s t k e x) a w) ?_ (n := 32) ⟨0, by omega, by omega, hin⟩
  rintro q a w ⟨k, hk, rfl, hin⟩
  show wpL Try.prog b4 _ a w
  by_cases hlt : k < 32
  · rw [cut4]
    refine seg_ok names_ok mixed_ok (orcFn_ok _) k0 hin ?_ ?_
    · simp only [List.mem_cons, List.not_mem_nil, or_false, forall_eq_or_imp, forall_eq]
      simp [Base.ev, SX.ev, binPV, Value.oneCell']
      omega
    · intro qs a2 w2 hq h2
      refine ⟨fun _ => ?_, fun h => absurd rfl h⟩
      simp [evs, SX.ev] at hq
      subst hq
      refine block_plain ?_
      show wpL Try.prog c4 _ a2 w2
      rw [cutc4]
      have s1 := sidx_at hs2 hlt
      have s2 := sidx_at ht2 hlt
      have next : ∀ a w, InShape C shD (stD m i s t k e x) a w → wpL Try.prog (b4.drop 3) (fun e' a' w' => (e' = .normal ∧ ∃ n', n' < 32 - k ∧ ∃ k, k ≤ 32 ∧ n' = 32 - k ∧ InShape C shD (stD m i s t k e x) a' w') ∨ (e' = .exit (blockId (nth c3 5)) ∧ wpL Try.prog [] Q a' w') ∨ (e' = .ret ∧ Q .ret a' w')) a w := by
        intro a3 w3 h3
        rw [← List.append_nil (b4.drop 3)]
        refine seg_ok names_ok mixed_ok (orcFn_ok _) inc4 h3 ?_ ?_
        · simp only [List.mem_cons, List.not_mem_nil, or_false, forall_eq_or_imp, forall_eq]
          simp [Base.ev, SX.ev, binPV, Value.oneCell']
        · intro qs a4 w4 hq h4
          refine ⟨fun _ => ?_, fun h => absurd rfl h⟩
          simp [evs, SX.ev, binPV] at hq
          subst hq
          rw [wrapI _ (by omega) (by omega)] at h4
          exact .inl ⟨rfl, 32 - (k + 1), by omega, k + 1, by omega, rfl, h4⟩
      by_cases hb : at8 s k = at8 t k
      · refine seg_ok names_ok mixed_ok (orcFn_ok _) eq h2 ?_ ?_
        · simp only [List.mem_cons, List.not_mem_nil, or_false, forall_eq_or_imp, forall_eq]
          simp [Base.ev, SX.ev, binPV, Value.oneCell', s1, s2, hb]
        · intro qs a3 w3 hq h3
          refine ⟨fun _ => ?_, fun h => absurd rfl h⟩
          simp [evs, SX.ev] at hq
          subst hq
          exact loop5 hF hml hm hx hi hlt hs ht hs2 ht2 (one := true) (by simp [hb]) h3 (fun a w h => ⟨rfl, next a w h⟩)
      · have hb' : ¬ (at8 s k).toNat = (at8 t k).toNat := fun h => hb (UInt8.toNat_inj.1 h)
        refine seg_ok names_ok mixed_ok (orcFn_ok _) ne h2 ?_ ?_
        · simp only [List.mem_cons, List.not_mem_nil, or_false, forall_eq_or_imp, forall_eq]
          simp [Base.ev, SX.ev, binPV, Value.oneCell', s1, s2, hb, hb']
          omega
        · intro qs a3 w3 hq h3
          refine ⟨fun _ => ?_, fun h => absurd rfl h⟩
          simp [evs, SX.ev] at hq
          subst hq
          exact loop5 hF hml hm hx hi hlt hs ht hs2 ht2 (one := false) (by simp [hb]) h3 (fun a w h => ⟨rfl, next a w h⟩)
  · have hk32 : k = 32 := by omega
    subst hk32
    have hcut : b4 = b4.take 2 ++ (b4.drop 2) := (List.take_append_drop 2 b4).symm
    rw [hcut]
    refine seg_ok names_ok mixed_ok (orcFn_ok _) o4 hin ?_ ?_
    · simp only [List.mem_cons, List.not_mem_nil, or_false, forall_eq_or_imp, forall_eq]
      simp [Base.ev, SX.ev, binPV, Value.oneCell']
    · intro qs a2 w2 hq h2
      refine ⟨fun h => (by cases h), fun _ => .inr (.inl ⟨by rw [id4]; rfl, ?_⟩)⟩
      simp [evs, SX.ev] at hq
      subst hq
      exact hQ _ _ h2

/-- The five sectors, and the end. -/
theorem loop3 {C : Base} (hF : C.F = F) {m : List (Nat × Nat)} (hml : m.length ≤ 10) (hm : ∀ p ∈ m, p.1 < 256 ∧ p.2 < 256) {e x : D} (hx : Left m e x) {a : Act} {w : World}
    (hin : InShape C shC (stC m 0 e x) a w) {Q : Exit → Act → World → Prop} (hQ : ∀ a w, InShape C shR [pB true] a w → Q .ret a w) : wpL Try.prog (.block (blockId (nth fl 14)) (.loop (loopBody (nth fl 14))) :: fl.drop 15) Q a w := by
  refine block_loop (fun q a w => ∃ i, i ≤ 5 ∧ q = 5 - i ∧ InShape C shC (stC m i e x) a w) ?_ (n := 5) ⟨0, by omega, by omega, hin⟩
  rintro q a w ⟨i, hi, rfl, hin⟩
  show wpL Try.prog b3 _ a w
  by_cases hlt : i < 5
  · rw [cut3]
    refine seg_ok names_ok mixed_ok (orcFn_ok _) i0 hin ?_ ?_
    · simp only [List.mem_cons, List.not_mem_nil, or_false, forall_eq_or_imp, forall_eq]
      simp [Base.ev, SX.ev, binPV, Value.oneCell']
      omega
    · intro qs a2 w2 hq h2
      refine ⟨fun _ => ?_, fun h => absurd rfl h⟩
      simp [evs, SX.ev] at hq
      subst hq
      refine block_plain ?_
      show wpL Try.prog c3 _ a2 w2
      rw [cutc3]
      have r1 := F2 hx.fx.ok (hx.fx.read hlt)
      have r2 := F2 hx.fe.ok (hx.fe.read hlt)
      have z1 : (latest x i).size = 32 := read_size hx.fx.ok (by rw [hx.fx.n]; exact hlt)
      have z2 : (latest e i).size = 32 := read_size hx.fe.ok (by rw [hx.fe.n]; exact hlt)
      refine seg_ok names_ok mixed_ok (orcFn_ok _) rd h2 ?_ ?_
      · simp only [List.mem_cons, List.not_mem_nil, or_false, forall_eq_or_imp, forall_eq]
        simp [Base.ev, SX.ev, evs, binPV, slenPV, Value.oneCell', hF, r1, r2, t2, z1, z2]
      · intro qs a3 w3 hq h3
        refine ⟨fun _ => ?_, fun h => absurd rfl h⟩
        simp [evs, SX.ev, hF, r1, r2] at hq
        subst hq
        refine loop4 hF hml hm hx hlt rfl rfl z1 z2 h3 (fun a4 w4 h4 => ⟨rfl, ?_⟩)
        rw [← List.append_nil (b3.drop 3)]
        refine seg_ok names_ok mixed_ok (orcFn_ok _) inc3 h4 ?_ ?_
        · simp only [List.mem_cons, List.not_mem_nil, or_false, forall_eq_or_imp, forall_eq]
          simp [Base.ev, SX.ev, binPV, Value.oneCell']
        · intro qs a5 w5 hq h5
          refine ⟨fun _ => ?_, fun h => absurd rfl h⟩
          simp [evs, SX.ev, binPV] at hq
          subst hq
          rw [wrapI _ (by omega) (by omega)] at h5
          exact .inl ⟨rfl, 5 - (i + 1), by omega, i + 1, by omega, rfl, h5⟩
  · have hk5 : i = 5 := by omega
    subst hk5
    have hcut : b3 = b3.take 2 ++ (b3.drop 2) := (List.take_append_drop 2 b3).symm
    rw [hcut]
    refine seg_ok names_ok mixed_ok (orcFn_ok _) o3 hin ?_ ?_
    · simp only [List.mem_cons, List.not_mem_nil, or_false, forall_eq_or_imp, forall_eq]
      simp [Base.ev, SX.ev, binPV, Value.oneCell']
    · intro qs a2 w2 hq h2
      refine ⟨fun h => (by cases h), fun _ => .inr (.inl ⟨by rw [id3]; rfl, ?_⟩)⟩
      simp [evs, SX.ev] at hq
      subst hq
      rw [← List.append_nil (fl.drop 15)]
      refine seg_ok names_ok mixed_ok (orcFn_ok _) post h2 ?_ ?_
      · simp only [List.mem_cons, List.not_mem_nil, or_false, forall_eq_or_imp, forall_eq]
        simp [Base.ev, SX.ev, lenPV_row, binPV, Value.oneCell', hx.none, hx.fx.down, hx.fx.arm]
      · intro qs a3 w3 hq h3
        refine ⟨fun h => (by cases h), fun _ => ?_⟩
        simp [evs, SX.ev] at hq
        subst hq
        exact hQ _ _ h3

theorem told (k : Nat) : ToldF 9 (E k) (spec R) := by
  refine told_by F _ (bodyOf Try.prog 9) Try.func9 (by kernel_rfl) sh0 (by kernel_rfl) ?_ ?_
  · intro ps qs h i hi
    simp [sh0] at hi
    match i, hi with
    | 0, hi => simp at hi
    | 1, hi => simp at hi
    | 2, hi => simp at hi
    | i + 3, hi => simp at hi
  · intro C ps qs hF h a w hsh
    obtain ⟨l, m, keep, hl, hm, rfl, rfl⟩ := of_spec h
    show wpL Try.prog fl _ a w
    rw [cut1]
    by_cases h20 : 20 < l.length
    · refine seg_ok names_ok mixed_ok (orcFn_ok _) preX1 hsh ?_ ?_
      · simp only [List.mem_cons, List.not_mem_nil, or_false, forall_eq_or_imp, forall_eq]
        simp [Base.ev, SX.ev, evs, lenPV_row, binPV, Value.oneCell', hF, F5, t5]
        omega
      · intro qs a1 w1 hq h1
        refine ⟨fun h => (by cases h), fun _ => ⟨.inr rfl, shR, qs, [SX.var 0], h1, by kernel_rfl, ?_⟩⟩
        simp [evs, SX.ev] at hq ⊢
        subst hq
        rfl
    by_cases h10 : 10 < m.length
    · refine seg_ok names_ok mixed_ok (orcFn_ok _) preX2 hsh ?_ ?_
      · simp only [List.mem_cons, List.not_mem_nil, or_false, forall_eq_or_imp, forall_eq]
        simp [Base.ev, SX.ev, evs, lenPV_row, binPV, Value.oneCell', hF, F5, t5, h10]
        omega
      · intro qs a1 w1 hq h1
        refine ⟨fun h => (by cases h), fun _ => ⟨.inr rfl, shR, qs, [SX.var 0], h1, by kernel_rfl, ?_⟩⟩
        simp [evs, SX.ev] at hq ⊢
        subst hq
        rfl
    by_cases hk10 : 10 < keep.length
    · refine seg_ok names_ok mixed_ok (orcFn_ok _) preX3 hsh ?_ ?_
      · simp only [List.mem_cons, List.not_mem_nil, or_false, forall_eq_or_imp, forall_eq]
        simp [Base.ev, SX.ev, evs, lenPV_row, binPV, Value.oneCell', hF, F5, t5, hk10]
        omega
      · intro qs a1 w1 hq h1
        refine ⟨fun h => (by cases h), fun _ => ⟨.inr rfl, shR, qs, [SX.var 0], h1, by kernel_rfl, ?_⟩⟩
        simp [evs, SX.ev] at hq ⊢
        subst hq
        rfl
    refine seg_ok names_ok mixed_ok (orcFn_ok _) pre hsh ?_ ?_
    · simp only [List.mem_cons, List.not_mem_nil, or_false, forall_eq_or_imp, forall_eq]
      simp [Base.ev, SX.ev, evs, lenPV_row, binPV, Value.oneCell', hF, F5, t5, F0, t0]
      omega
    intro qs a1 w1 hq h1
    refine ⟨fun _ => ?_, fun h => absurd rfl h⟩
    simp [evs, SX.ev, hF, F0] at hq
    subst hq
    obtain ⟨hf, hw0⟩ : Fine (newD 5) 5 ∧ (newD 5).wait.length = 0 := fine_new 5 (by omega) (by omega)
    have h1' : InShape C shA (stA l m keep 0 (newD 5)) a1 w1 := h1
    refine block_loop (fun n a w => ∃ k d, k ≤ l.length ∧ n = l.length - k ∧ Fine d 5 ∧ d.wait.length ≤ k ∧ InShape C shA (stA l m keep k d) a w) ?_ (n := l.length) ⟨0, newD 5, by omega, by omega, hf, by omega, h1'⟩
    rintro n a w ⟨k, d, hk, rfl, hd, hdw, hin⟩
    show wpL Try.prog b1 _ a w
    rw [← List.append_nil b1]
    by_cases hlt : k < l.length
    · obtain ⟨q1, q2⟩ := hl l[k] (List.getElem_mem hlt)
      have c0 : cellPV (pRow enc2 l) (pI (k : Int)) 2 0 = some (pU (l[k].1 : Int)) := by rw [cell2 l k hlt 0 (by omega)]; rfl
      have c1 : cellPV (pRow enc2 l) (pI (k : Int)) 2 1 = some (pU (l[k].2 : Int)) := by rw [cell2 l k hlt 1 (by omega)]; rfl
      have i1 : (Fact.idx (var 0) (var 3) 2 1).holds (C.with (stA l m keep k d)) := idx_row enc2 l k 2 1 rfl hlt (by decide)
      have i2 : (Fact.idx (var 0) (var 3) 2 2).holds (C.with (stA l m keep k d)) := idx_row enc2 l k 2 2 rfl hlt (by decide)
      generalize l[k].1 = u at *
      generalize l[k].2 = z at *
      obtain ⟨r, hr⟩ : ∃ r, u % 5 = r := ⟨_, rfl⟩
      have hu : ((u : Int).tmod 5) = (r : Int) := by
        have : ((u : Int).tmod 5) = ((u % 5 : Nat) : Int) := rfl
        rw [this, hr]
      have hw : IntKind.i64.wrap (r : Int) = (r : Int) := wrapI _ (by omega) (by omega)
      obtain ⟨d', e1, hd', e2, e3, e4, e5⟩ := hd.write (i := r) (b := sec.sec z) (by omega) (sec.sec_size z) (by omega)
      have g3 := F3 hd.ok e1
      have g4 := F4 q2
      refine seg_ok names_ok mixed_ok (orcFn_ok _) wr1 hin ?_ ?_
      · simp only [List.mem_cons, List.not_mem_nil, or_false, forall_eq_or_imp, forall_eq]
        simp [Base.ev, SX.ev, evs, lenPV_row, binPV, convPV, Value.oneCell', hF, hlt, c0, c1, i1, i2, hu, hw, g3, g4, t3, t4]
      · intro qs a2 w2 hq h2
        refine ⟨fun _ => ?_, fun h => absurd rfl h⟩
        simp [evs, SX.ev, hF, binPV, convPV, c0, c1, hu, hw, g3, g4] at hq
        subst hq
        rw [wrapI _ (by omega) (by omega)] at h2
        exact .inl ⟨rfl, l.length - (k + 1), by omega, k + 1, d', by omega, rfl, hd', by omega, h2⟩
    · refine seg_ok names_ok mixed_ok (orcFn_ok _) o1 hin ?_ ?_
      · simp only [List.mem_cons, List.not_mem_nil, or_false, forall_eq_or_imp, forall_eq]
        simp [Base.ev, SX.ev, lenPV_row, binPV, Value.oneCell']
        omega
      intro qs a2 w2 hq h2
      refine ⟨fun h => (by cases h), fun _ => .inr (.inl ⟨by rw [id1]; rfl, ?_⟩)⟩
      simp [evs, SX.ev] at hq
      subst hq
      obtain ⟨f1, hd1, f2, _⟩ := hd.flush
      have g1 := F1 hd.ok f1
      generalize flushD d = e at *
      refine seg_ok names_ok mixed_ok (orcFn_ok _) mid h2 ?_ ?_
      · simp only [List.mem_cons, List.not_mem_nil, or_false, forall_eq_or_imp, forall_eq]
        simp [Base.ev, SX.ev, evs, Value.oneCell', hF, g1, t1]
      intro qs a3 w3 hq h3
      refine ⟨fun _ => ?_, fun h => absurd rfl h⟩
      simp [evs, SX.ev, hF, g1] at hq
      subst hq
      refine block_loop (fun n a w => ∃ k d, k ≤ m.length ∧ n = m.length - k ∧ Fine d 5 ∧ d.last = e.last ∧ d.wait = (m.take k).map (fun p => (p.1 % 5, sec.sec p.2)) ∧ InShape C shB (stB m keep k d e) a w) ?_ (n := m.length) ⟨0, e, by omega, by omega, hd1, rfl, by simpa using f2, h3⟩
      rintro n a w ⟨k, d, hk, rfl, hd, hdl, hdw, hin⟩
      show wpL Try.prog b2 _ a w
      rw [← List.append_nil b2]
      by_cases hlt : k < m.length
      · obtain ⟨q1, q2⟩ := hm m[k] (List.getElem_mem hlt)
        have hmk : (m.take (k + 1)).map (fun p => (p.1 % 5, sec.sec p.2)) = d.wait ++ [(m[k].1 % 5, sec.sec m[k].2)] := by
          rw [List.take_add_one, List.getElem?_eq_getElem hlt, hdw, List.map_append]; rfl
        have hwl : d.wait.length ≤ 10 := by rw [hdw]; simp; omega
        have c0 : cellPV (pRow enc2 m) (pI (k : Int)) 2 0 = some (pU (m[k].1 : Int)) := by rw [cell2 m k hlt 0 (by omega)]; rfl
        have c1 : cellPV (pRow enc2 m) (pI (k : Int)) 2 1 = some (pU (m[k].2 : Int)) := by rw [cell2 m k hlt 1 (by omega)]; rfl
        have i1 : (Fact.idx (var 0) (var 2) 2 1).holds (C.with (stB m keep k d e)) := idx_row enc2 m k 2 1 rfl hlt (by decide)
        have i2 : (Fact.idx (var 0) (var 2) 2 2).holds (C.with (stB m keep k d e)) := idx_row enc2 m k 2 2 rfl hlt (by decide)
        generalize m[k].1 = u at *
        generalize m[k].2 = z at *
        obtain ⟨r, hr⟩ : ∃ r, u % 5 = r := ⟨_, rfl⟩
        have hu : ((u : Int).tmod 5) = (r : Int) := by
          have : ((u : Int).tmod 5) = ((u % 5 : Nat) : Int) := rfl
          rw [this, hr]
        have hw : IntKind.i64.wrap (r : Int) = (r : Int) := wrapI _ (by omega) (by omega)
        obtain ⟨d', e1, hd', e2, e3, e4, e5⟩ := hd.write (i := r) (b := sec.sec z) (by omega) (sec.sec_size z) (by omega)
        have g3 := F3 hd.ok e1
        have g4 := F4 q2
        rw [hr] at hmk
        refine seg_ok names_ok mixed_ok (orcFn_ok _) wr2 hin ?_ ?_
        · simp only [List.mem_cons, List.not_mem_nil, or_false, forall_eq_or_imp, forall_eq]
          simp [Base.ev, SX.ev, evs, lenPV_row, binPV, convPV, Value.oneCell', hF, hlt, c0, c1, i1, i2, hu, hw, g3, g4, t3, t4]
        · intro qs a4 w4 hq h4
          refine ⟨fun _ => ?_, fun h => absurd rfl h⟩
          simp [evs, SX.ev, hF, binPV, convPV, c0, c1, hu, hw, g3, g4] at hq
          subst hq
          rw [wrapI _ (by omega) (by omega)] at h4
          exact .inl ⟨rfl, m.length - (k + 1), by omega, k + 1, d', by omega, rfl, hd', e4.trans hdl, by rw [hmk, e5], h4⟩
      · refine seg_ok names_ok mixed_ok (orcFn_ok _) o2 hin ?_ ?_
        · simp only [List.mem_cons, List.not_mem_nil, or_false, forall_eq_or_imp, forall_eq]
          simp [Base.ev, SX.ev, lenPV_row, binPV, Value.oneCell']
          omega
        intro qs a4 w4 hq h4
        refine ⟨fun h => (by cases h), fun _ => .inr (.inl ⟨by rw [id2]; rfl, ?_⟩)⟩
        simp [evs, SX.ev] at hq
        subst hq
        have hx := left keep hd hd1 f2 hdl (by rw [hdw, List.take_of_length_le (by omega)])
        have g6 := F6 (keep := keep) hd.ok
        generalize crashD d keep = x at *
        refine seg_ok names_ok mixed_ok (orcFn_ok _) mid2 h4 ?_ ?_
        · simp only [List.mem_cons, List.not_mem_nil, or_false, forall_eq_or_imp, forall_eq]
          simp [Base.ev, SX.ev, evs, Value.oneCell', hF, g6, t6]
        intro qs a5 w5 hq h5
        refine ⟨fun _ => ?_, fun h => absurd rfl h⟩
        simp [evs, SX.ev, hF, g6] at hq
        subst hq
        exact loop3 hF (by omega) hm hx h5 (fun a w h => ⟨.inr rfl, shR, [pB true], [SX.var 0], h, by kernel_rfl, by simp [evs, SX.ev]⟩)

theorem fR : ∀ ps q1 q2, R ps q1 → R ps q2 → q1 = q2 := by
  rintro ps q1 q2 ⟨_, _, _, _, _, _, rfl⟩ ⟨_, _, _, _, _, _, rfl⟩; rfl
theorem grid2 {w : World} {v : Value} {len : Nat} {Z : Nat → Nat → Int} (h : IsGrid 2 w v len Z) : ∃ l : List (Nat × Nat), (∀ p ∈ l, p.1 < 256 ∧ p.2 < 256) ∧ Reads w (pRow enc2 l) v := by
  obtain ⟨a, cap, rfl, h1, h2, h3⟩ := h
  by_cases h0 : 0 < len
  · obtain ⟨b, off, rfl, hc⟩ := h3 h0
    refine ⟨(List.range len).map fun i => ((Z i 0).toNat, (Z i 1).toNat), ?_, (reads_row enc2).2 ⟨_, cap, by simp, by simpa using h1, h2, fun _ => ⟨b, off, rfl, ?_, ?_⟩⟩⟩
    · intro p hp
      obtain ⟨i, hi, rfl⟩ := List.mem_map.1 hp
      have hi := List.mem_range.1 hi
      have z0 := (hc i hi 0 (by omega)).2
      have z1 := (hc i hi 1 (by omega)).2
      simp only
      omega
    · exact World.block_lt_of_cell? w ⟨b, off + 0 * 2 + 0, none⟩ (hc 0 h0 0 (by omega)).1
    · intro q u hq
      have hql : q < len * 2 := by
        have := (List.getElem?_eq_some_iff.1 hq).1
        rw [Enc.all_length] at this
        simpa [enc2] using this
      have hi : q / 2 < len := by omega
      have hx : ((List.range len).map fun i => ((Z i 0).toNat, (Z i 1).toNat))[q / 2]? = some ((Z (q / 2) 0).toNat, (Z (q / 2) 1).toNat) := by simp [hi]
      have := enc2.all_get _ (q / 2) (q % 2) _ hx (show q % 2 < 2 by omega)
      rw [show q / 2 * enc2.sz + q % 2 = q by show q / 2 * 2 + q % 2 = q; omega, hq] at this
      obtain ⟨k1, k2, k3⟩ := hc (q / 2) hi (q % 2) (by omega)
      rw [show off + q = off + q / 2 * 2 + q % 2 by omega, k1, this]
      have h3 : q % 2 = 0 ∨ q % 2 = 1 := by omega
      rcases h3 with h3 | h3 <;> rw [h3] at k2 k3 ⊢ <;> simp [enc2] <;> omega
  · obtain rfl : len = 0 := by omega
    exact ⟨[], by simp, (reads_row enc2).2 ⟨a, cap, rfl, by simp, h2, fun h => absurd h (by simp)⟩⟩
theorem rowI {w : World} {v : Value} {len : Nat} {Z : Nat → Int} (h : IsRow .i64 w v len Z) : ∃ l : List Int, Reads w (pRow encI l) v := by
  obtain ⟨a, cap, rfl, h1, h2, h3⟩ := h
  by_cases h0 : 0 < len
  · obtain ⟨b, off, rfl, hc⟩ := h3 h0
    refine ⟨(List.range len).map Z, (reads_row encI).2 ⟨_, cap, by simp, by simpa using h1, h2, fun _ => ⟨b, off, rfl, World.block_lt_of_cell? w ⟨b, off + 0, none⟩ (hc 0 h0).1, fun q u hq => ?_⟩⟩⟩
    have hql : q < len := by
      have := (List.getElem?_eq_some_iff.1 hq).1
      rw [Enc.all_length] at this
      simpa [encI] using this
    have hx : ((List.range len).map Z)[q]? = some (Z q) := by simp [hql]
    have := encI.all_get _ q 0 _ hx (show 0 < 1 by omega)
    rw [show q * encI.sz + 0 = q by show q * 1 + 0 = q; omega, hq] at this
    rw [(hc q hql).1, this]
    rfl
  · obtain rfl : len = 0 := by omega
    exact ⟨[], (reads_row encI).2 ⟨a, cap, rfl, by simp, h2, fun h => absurd h (by simp)⟩⟩
theorem walk (w : World) (v : Value) (len : Nat) (Z : Nat → Nat → Int) (h : IsGrid 2 w v len Z) (v1 : Value) (len1 : Nat) (Z1 : Nat → Nat → Int) (h1 : IsGrid 2 w v1 len1 Z1) (v2 : Value) (len2 : Nat) (Z2 : Nat → Int) (h2 : IsRow .i64 w v2 len2 Z2) :
    Calls Try.prog 9 #[v, v1, v2] w fun e w' => e = .returned (.bool true) ∧ Ex w w' := by
  obtain ⟨l, hb, hr⟩ := grid2 h
  obtain ⟨m, hb1, hr1⟩ := grid2 h1
  obtain ⟨keep, hr2⟩ := rowI h2
  refine (told 0 w (fun _ => False) [v, v1, v2] [pRow enc2 l, pRow enc2 m, pRow encI keep] [pB true] (spec_of fR ⟨l, m, keep, hb, hb1, rfl, rfl⟩) rfl rfl (fun _ h => h.elim) (fun i p u hp hu => ?_)).mono ?_
  · match i, hp, hu with
    | 0, hp, hu => simp at hp hu; subst hp; subst hu; exact ⟨hr, fun h => by simp [E] at h⟩
    | 1, hp, hu => simp at hp hu; subst hp; subst hu; exact ⟨hr1, fun h => by simp [E] at h⟩
    | 2, hp, hu => simp at hp hu; subst hp; subst hu; exact ⟨hr2, fun h => by simp [E] at h⟩
    | i + 3, hp, hu => simp at hp
  · rintro e w' ⟨us, h1, _, h2, rfl, hex⟩
    obtain ⟨x, rfl⟩ := symD.len1 h1
    have := h2 0 (pB true) x rfl rfl w' (fun _ _ => rfl)
    simp only [Reads] at this
    rw [this.1]
    exact ⟨rfl, hex⟩
end Go.Proofs.Yteohdkilgigomaa.diskLasts
