/- FileBytes by the symbolic engine. -/
import Derived.Test.YtlfdkccmfbfgiaaFro
namespace Go.Proofs.Ytlfdkccmfbfgiaa.fileBytes
open Go Go.RowKit eng SX Fact fil fileFronts
open pck hiding F F20 F21
set_option linter.unusedVariables false
set_option linter.unusedSimpArgs false
set_option maxRecDepth 1000000

noncomputable def flB := flat (bodyOf Try.prog 9)
def shB : Shape := ⟨[(0, .leaf), (1, .leaf), (2, .leaf)], [], [none, some true, none], 119, 9⟩
def shBR : Shape := ⟨[(6, .leaf)], [], [none], 119, 9⟩
def shBl : Shape := ⟨[(7, .leaf), (8, .leaf), (9, .leaf), (10, .leaf), (11, .leaf), (13, .leaf)], [], [some true, none, none, none, none, none], 119, 9⟩
noncomputable def lpB := flat (loopBody (nth flB 12))
theorem q1 : segTo Try.prog orcF 10000 flB shB [1, 1] shBR [] = some (.ret, [.fn 30 (EBg 3) [], .is (.fn 3 [] 0) (.bool true), .ok (.slen (.var 0)), .ok (.bin .gtr (.slen (.var 0)) (.con (.int .i64 24))), .is (.bin .gtr (.slen (.var 0)) (.con (.int .i64 24))) (.bool true), .ok (.con (.bool true))], [.con (.bool true)]) := by kernel_rfl
theorem q2 : segTo Try.prog orcF 10000 flB shB [1, 0, 1] shBR [] = some (.ret, [.fn 30 (EBg 3) [], .is (.fn 3 [] 0) (.bool true), .ok (.slen (.var 0)), .ok (.bin .gtr (.slen (.var 0)) (.con (.int .i64 24))), .is (.bin .gtr (.slen (.var 0)) (.con (.int .i64 24))) (.bool false), .ok (.len (.var 1)), .ok (.bin .gtr (.len (.var 1)) (.con (.int .i64 20))), .is (.bin .gtr (.len (.var 1)) (.con (.int .i64 20))) (.bool true), .ok (.con (.bool true))], [.con (.bool true)]) := by kernel_rfl
theorem pre1 : segTo Try.prog orcF 10000 (flB.take 12) shB [1, 0, 0, 1] shBl [] = some (.normal, [.fn 30 (EBg 3) [], .is (.fn 3 [] 0) (.bool true), .ok (.slen (.var 0)), .ok (.bin .gtr (.slen (.var 0)) (.con (.int .i64 24))), .is (.bin .gtr (.slen (.var 0)) (.con (.int .i64 24))) (.bool false), .ok (.len (.var 1)), .ok (.bin .gtr (.len (.var 1)) (.con (.int .i64 20))), .is (.bin .gtr (.len (.var 1)) (.con (.int .i64 20))) (.bool false), .fp 32 (EWs 22) [.con (.int .i64 8), .var 1, .con (.int .i64 0)], .ok (.fn 22 [.con (.int .i64 8), .var 1, .con (.int .i64 0)] 2), .fn 38 (EAll 1) [.var 0, .fn 22 [.con (.int .i64 8), .var 1, .con (.int .i64 0)] 0], .ok (.fn 1 [.var 0, .fn 22 [.con (.int .i64 8), .var 1, .con (.int .i64 0)] 0] 0), .ok (.slen (.var 0)), .ok (.bin .rem (.var 2) (.con (.int .u8 24))), .ok (.conv .i64 (.bin .rem (.var 2) (.con (.int .u8 24)))), .ok (.slen (.var 0)), .ok (.bin .lss (.conv .i64 (.bin .rem (.var 2) (.con (.int .u8 24)))) (.slen (.var 0))), .is (.bin .lss (.conv .i64 (.bin .rem (.var 2) (.con (.int .u8 24)))) (.slen (.var 0))) (.bool true), .ok (sidx (.var 0) (.conv .i64 (.bin .rem (.var 2) (.con (.int .u8 24))))), .ok (.fn 1 [.var 0, .fn 22 [.con (.int .i64 8), .var 1, .con (.int .i64 0)] 0] 0), .ok (.slen (.var 0)), .ok (.conv .i64 (.bin .rem (.var 2) (.con (.int .u8 24)))), .ok (sidx (.var 0) (.conv .i64 (.bin .rem (.var 2) (.con (.int .u8 24))))), .ok (.con (.int .i64 0))], [.fn 22 [.con (.int .i64 8), .var 1, .con (.int .i64 0)] 0, .fn 1 [.var 0, .fn 22 [.con (.int .i64 8), .var 1, .con (.int .i64 0)] 0] 0, .slen (.var 0), .conv .i64 (.bin .rem (.var 2) (.con (.int .u8 24))), sidx (.var 0) (.conv .i64 (.bin .rem (.var 2) (.con (.int .u8 24)))), .con (.int .i64 0)]) := by kernel_rfl
theorem pre0 : segTo Try.prog orcF 10000 (flB.take 12) shB [1, 0, 0, 0] shBl [] = some (.normal, [.fn 30 (EBg 3) [], .is (.fn 3 [] 0) (.bool true), .ok (.slen (.var 0)), .ok (.bin .gtr (.slen (.var 0)) (.con (.int .i64 24))), .is (.bin .gtr (.slen (.var 0)) (.con (.int .i64 24))) (.bool false), .ok (.len (.var 1)), .ok (.bin .gtr (.len (.var 1)) (.con (.int .i64 20))), .is (.bin .gtr (.len (.var 1)) (.con (.int .i64 20))) (.bool false), .fp 32 (EWs 22) [.con (.int .i64 8), .var 1, .con (.int .i64 0)], .ok (.fn 22 [.con (.int .i64 8), .var 1, .con (.int .i64 0)] 2), .fn 38 (EAll 1) [.var 0, .fn 22 [.con (.int .i64 8), .var 1, .con (.int .i64 0)] 0], .ok (.fn 1 [.var 0, .fn 22 [.con (.int .i64 8), .var 1, .con (.int .i64 0)] 0] 0), .ok (.slen (.var 0)), .ok (.bin .rem (.var 2) (.con (.int .u8 24))), .ok (.conv .i64 (.bin .rem (.var 2) (.con (.int .u8 24)))), .ok (.slen (.var 0)), .ok (.bin .lss (.conv .i64 (.bin .rem (.var 2) (.con (.int .u8 24)))) (.slen (.var 0))), .is (.bin .lss (.conv .i64 (.bin .rem (.var 2) (.con (.int .u8 24)))) (.slen (.var 0))) (.bool false), .ok (.fn 1 [.var 0, .fn 22 [.con (.int .i64 8), .var 1, .con (.int .i64 0)] 0] 0), .ok (.slen (.var 0)), .ok (.conv .i64 (.bin .rem (.var 2) (.con (.int .u8 24)))), .ok (.con (.int .u8 0)), .ok (.con (.int .i64 0))], [.fn 22 [.con (.int .i64 8), .var 1, .con (.int .i64 0)] 0, .fn 1 [.var 0, .fn 22 [.con (.int .i64 8), .var 1, .con (.int .i64 0)] 0] 0, .slen (.var 0), .conv .i64 (.bin .rem (.var 2) (.con (.int .u8 24))), .con (.int .u8 0), .con (.int .i64 0)]) := by kernel_rfl
theorem ex : segTo Try.prog orcF 10000 lpB shBl [0] shBl [] = some (.exit 0, [.ok (.len (.var 0)), .ok (.bin .lss (.var 5) (.len (.var 0))), .is (.bin .lss (.var 5) (.len (.var 0))) (.bool false), .ok (.var 1), .ok (.var 2), .ok (.var 3), .ok (.var 4), .ok (.var 5)], [.var 0, .var 1, .var 2, .var 3, .var 4, .var 5]) := by kernel_rfl
theorem b0 : segTo Try.prog orcF 10000 lpB shBl [1, 0] shBl [] = some (.normal, [.ok (.len (.var 0)), .ok (.bin .lss (.var 5) (.len (.var 0))), .is (.bin .lss (.var 5) (.len (.var 0))) (.bool true), .idx (.var 0) (.var 5) 2 2, .idx (.var 0) (.var 5) 2 1, .ok (.cell (.var 0) (.var 5) 2 0), .idx (.var 0) (.var 5) 2 2, .idx (.var 0) (.var 5) 2 2, .ok (.cell (.var 0) (.var 5) 2 1), .ok (.slen (.cell (.var 0) (.var 5) 2 1)), .ok (.bin .add (.cell (.var 0) (.var 5) 2 0) (.slen (.cell (.var 0) (.var 5) 2 1))), .ok (rop ROp.max2 [.var 2, .bin .add (.cell (.var 0) (.var 5) 2 0) (.slen (.cell (.var 0) (.var 5) 2 1))]), .idx (.var 0) (.var 5) 2 2, .idx (.var 0) (.var 5) 2 1, .ok (.cell (.var 0) (.var 5) 2 0), .ok (.bin .geq (.var 3) (.cell (.var 0) (.var 5) 2 0)), .is (.bin .geq (.var 3) (.cell (.var 0) (.var 5) 2 0)) (.bool false), .ok (.bin .add (.var 5) (.con (.int .i64 1))), .ok (.var 1), .ok (rop ROp.max2 [.var 2, .bin .add (.cell (.var 0) (.var 5) 2 0) (.slen (.cell (.var 0) (.var 5) 2 1))]), .ok (.var 3), .ok (.var 4), .ok (.bin .add (.var 5) (.con (.int .i64 1)))], [.var 0, .var 1, rop ROp.max2 [.var 2, .bin .add (.cell (.var 0) (.var 5) 2 0) (.slen (.cell (.var 0) (.var 5) 2 1))], .var 3, .var 4, .bin .add (.var 5) (.con (.int .i64 1))]) := by kernel_rfl
theorem b10 : segTo Try.prog orcF 10000 lpB shBl [1, 1, 0] shBl [] = some (.normal, [.ok (.len (.var 0)), .ok (.bin .lss (.var 5) (.len (.var 0))), .is (.bin .lss (.var 5) (.len (.var 0))) (.bool true), .idx (.var 0) (.var 5) 2 2, .idx (.var 0) (.var 5) 2 1, .ok (.cell (.var 0) (.var 5) 2 0), .idx (.var 0) (.var 5) 2 2, .idx (.var 0) (.var 5) 2 2, .ok (.cell (.var 0) (.var 5) 2 1), .ok (.slen (.cell (.var 0) (.var 5) 2 1)), .ok (.bin .add (.cell (.var 0) (.var 5) 2 0) (.slen (.cell (.var 0) (.var 5) 2 1))), .ok (rop ROp.max2 [.var 2, .bin .add (.cell (.var 0) (.var 5) 2 0) (.slen (.cell (.var 0) (.var 5) 2 1))]), .idx (.var 0) (.var 5) 2 2, .idx (.var 0) (.var 5) 2 1, .ok (.cell (.var 0) (.var 5) 2 0), .ok (.bin .geq (.var 3) (.cell (.var 0) (.var 5) 2 0)), .is (.bin .geq (.var 3) (.cell (.var 0) (.var 5) 2 0)) (.bool true), .idx (.var 0) (.var 5) 2 2, .idx (.var 0) (.var 5) 2 1, .ok (.cell (.var 0) (.var 5) 2 0), .idx (.var 0) (.var 5) 2 2, .idx (.var 0) (.var 5) 2 2, .ok (.cell (.var 0) (.var 5) 2 1), .ok (.slen (.cell (.var 0) (.var 5) 2 1)), .ok (.bin .add (.cell (.var 0) (.var 5) 2 0) (.slen (.cell (.var 0) (.var 5) 2 1))), .ok (.bin .lss (.var 3) (.bin .add (.cell (.var 0) (.var 5) 2 0) (.slen (.cell (.var 0) (.var 5) 2 1)))), .is (.bin .lss (.var 3) (.bin .add (.cell (.var 0) (.var 5) 2 0) (.slen (.cell (.var 0) (.var 5) 2 1)))) (.bool false), .ok (.bin .add (.var 5) (.con (.int .i64 1))), .ok (.var 1), .ok (rop ROp.max2 [.var 2, .bin .add (.cell (.var 0) (.var 5) 2 0) (.slen (.cell (.var 0) (.var 5) 2 1))]), .ok (.var 3), .ok (.var 4), .ok (.bin .add (.var 5) (.con (.int .i64 1)))], [.var 0, .var 1, rop ROp.max2 [.var 2, .bin .add (.cell (.var 0) (.var 5) 2 0) (.slen (.cell (.var 0) (.var 5) 2 1))], .var 3, .var 4, .bin .add (.var 5) (.con (.int .i64 1))]) := by kernel_rfl
theorem b11 : segTo Try.prog orcF 10000 lpB shBl [1, 1, 1] shBl [] = some (.normal, [.ok (.len (.var 0)), .ok (.bin .lss (.var 5) (.len (.var 0))), .is (.bin .lss (.var 5) (.len (.var 0))) (.bool true), .idx (.var 0) (.var 5) 2 2, .idx (.var 0) (.var 5) 2 1, .ok (.cell (.var 0) (.var 5) 2 0), .idx (.var 0) (.var 5) 2 2, .idx (.var 0) (.var 5) 2 2, .ok (.cell (.var 0) (.var 5) 2 1), .ok (.slen (.cell (.var 0) (.var 5) 2 1)), .ok (.bin .add (.cell (.var 0) (.var 5) 2 0) (.slen (.cell (.var 0) (.var 5) 2 1))), .ok (rop ROp.max2 [.var 2, .bin .add (.cell (.var 0) (.var 5) 2 0) (.slen (.cell (.var 0) (.var 5) 2 1))]), .idx (.var 0) (.var 5) 2 2, .idx (.var 0) (.var 5) 2 1, .ok (.cell (.var 0) (.var 5) 2 0), .ok (.bin .geq (.var 3) (.cell (.var 0) (.var 5) 2 0)), .is (.bin .geq (.var 3) (.cell (.var 0) (.var 5) 2 0)) (.bool true), .idx (.var 0) (.var 5) 2 2, .idx (.var 0) (.var 5) 2 1, .ok (.cell (.var 0) (.var 5) 2 0), .idx (.var 0) (.var 5) 2 2, .idx (.var 0) (.var 5) 2 2, .ok (.cell (.var 0) (.var 5) 2 1), .ok (.slen (.cell (.var 0) (.var 5) 2 1)), .ok (.bin .add (.cell (.var 0) (.var 5) 2 0) (.slen (.cell (.var 0) (.var 5) 2 1))), .ok (.bin .lss (.var 3) (.bin .add (.cell (.var 0) (.var 5) 2 0) (.slen (.cell (.var 0) (.var 5) 2 1)))), .is (.bin .lss (.var 3) (.bin .add (.cell (.var 0) (.var 5) 2 0) (.slen (.cell (.var 0) (.var 5) 2 1)))) (.bool true), .idx (.var 0) (.var 5) 2 2, .idx (.var 0) (.var 5) 2 2, .ok (.cell (.var 0) (.var 5) 2 1), .idx (.var 0) (.var 5) 2 2, .idx (.var 0) (.var 5) 2 1, .ok (.cell (.var 0) (.var 5) 2 0), .ok (.bin .sub (.var 3) (.cell (.var 0) (.var 5) 2 0)), .ok (sidx (.cell (.var 0) (.var 5) 2 1) (.bin .sub (.var 3) (.cell (.var 0) (.var 5) 2 0))), .ok (.bin .add (.var 5) (.con (.int .i64 1))), .ok (.var 1), .ok (rop ROp.max2 [.var 2, .bin .add (.cell (.var 0) (.var 5) 2 0) (.slen (.cell (.var 0) (.var 5) 2 1))]), .ok (.var 3), .ok (sidx (.cell (.var 0) (.var 5) 2 1) (.bin .sub (.var 3) (.cell (.var 0) (.var 5) 2 0))), .ok (.bin .add (.var 5) (.con (.int .i64 1)))], [.var 0, .var 1, rop ROp.max2 [.var 2, .bin .add (.cell (.var 0) (.var 5) 2 0) (.slen (.cell (.var 0) (.var 5) 2 1))], .var 3, sidx (.cell (.var 0) (.var 5) 2 1) (.bin .sub (.var 3) (.cell (.var 0) (.var 5) 2 0)), .bin .add (.var 5) (.con (.int .i64 1))]) := by kernel_rfl
theorem post1 : segTo Try.prog orcF 10000 (flB.drop 13) shBl [1, 1, 1] shBR [] = some (.ret, [.ok (.slen (.var 1)), .ok (.bin .eql (.slen (.var 1)) (.var 2)), .is (.bin .eql (.slen (.var 1)) (.var 2)) (.bool true), .ok (.bin .leq (.var 2) (.con (.int .i64 24))), .is (.bin .leq (.var 2) (.con (.int .i64 24))) (.bool true), .ok (.bin .geq (.var 3) (.var 2)), .is (.bin .geq (.var 3) (.var 2)) (.bool true), .ok (.con (.bool true))], [.con (.bool true)]) := by kernel_rfl
theorem post0 : segTo Try.prog orcF 10000 (flB.drop 13) shBl [1, 1, 0, 1] shBR [] = some (.ret, [.ok (.slen (.var 1)), .ok (.bin .eql (.slen (.var 1)) (.var 2)), .is (.bin .eql (.slen (.var 1)) (.var 2)) (.bool true), .ok (.bin .leq (.var 2) (.con (.int .i64 24))), .is (.bin .leq (.var 2) (.con (.int .i64 24))) (.bool true), .ok (.bin .geq (.var 3) (.var 2)), .is (.bin .geq (.var 3) (.var 2)) (.bool false), .ok (sidx (.var 1) (.var 3)), .ok (.bin .eql (sidx (.var 1) (.var 3)) (.var 4)), .is (.bin .eql (sidx (.var 1) (.var 3)) (.var 4)) (.bool true), .ok (.con (.bool true))], [.con (.bool true)]) := by kernel_rfl

theorem cutB : flB = flB.take 12 ++ .block (blockId (nth flB 12)) (.loop (loopBody (nth flB 12))) :: flB.drop 13 := by kernel_rfl
/-! Bytes. -/
theorem grown_getD (l : List UInt8) (N k : Nat) : (grown l N).getD k 0 = l.getD k 0 := by
  simp only [grown, List.getD, List.getElem?_append]
  by_cases h : k < l.length
  · rw [if_pos h]
  · rw [if_neg h, List.getElem?_eq_none (by omega : l.length ≤ k)]
    by_cases h2 : k - l.length < N - l.length
    · simp [List.getElem?_replicate, h2]
    · rw [List.getElem?_eq_none (by simp; omega)]
theorem over_getD (m x : List UInt8) (o k : Nat) (h : o + x.length ≤ m.length) : (over m x o).getD k 0 = if k < o then m.getD k 0 else if k < o + x.length then x.getD (k - o) 0 else m.getD k 0 := by
  simp only [over, List.getD, List.getElem?_append, List.getElem?_take, List.getElem?_drop, List.length_append, List.length_take]
  rw [show min o m.length = o by omega]
  by_cases h1 : k < o
  · rw [if_pos (by omega), if_pos h1, if_pos h1, if_pos h1]
  · by_cases h2 : k < o + x.length
    · rw [if_pos h2, if_neg h1, if_neg h1, if_pos h2]
    · rw [if_neg h2, if_neg h1, if_neg h2]
      congr 2
      omega
theorem put_getD (l : List UInt8) (o : Nat) (s : ByteArray) (k : Nat) (hm : mayW ((o : Int), s) = true) : (putW l ((o : Int), s)).getD k 0 = if o ≤ k ∧ k < o + s.size then s.data.toList.getD (k - o) 0 else l.getD k 0 := by
  have hx : s.data.toList.length = s.size := by simp
  simp only [putW, hm, cond_true, Int.toNat_natCast]
  rw [over_getD _ _ _ _ (by rw [hx]; simp [grown]; omega), grown_getD, hx]
  by_cases h1 : k < o
  · rw [if_pos h1, if_neg (by omega)]
  · by_cases h2 : k < o + s.size
    · rw [if_neg h1, if_pos h2, if_pos ⟨by omega, h2⟩]
    · rw [if_neg h1, if_neg h2, if_neg (by omega)]
theorem put_len (l : List UInt8) (o : Nat) (s : ByteArray) (hm : mayW ((o : Int), s) = true) : (putW l ((o : Int), s)).length = max l.length (o + s.size) := by
  have hx : s.data.toList.length = s.size := by simp
  simp only [putW, hm, cond_true, Int.toNat_natCast, over, grown, List.length_append, List.length_take, List.length_drop, List.length_replicate, hx]
  omega
theorem tbl_pos : ∀ j, 1 ≤ (tbl j).size
  | 0 => by decide
  | 1 => by decide
  | 2 => by decide
  | 3 => by decide
  | 4 => by decide
  | 5 => by decide
  | _ + 6 => by show 1 ≤ (⟨⟨[UInt8.ofNat 120]⟩⟩ : ByteArray).size; decide
theorem wseq_pos (l : List Nat) : ∀ c n, ∀ w ∈ (wseq l c n).1, 1 ≤ w.2.size
  | 0, n, w, h => by simp [wseq] at h
  | c + 1, n, w, h => by
    simp only [wseq, List.mem_cons] at h
    rcases h with rfl | h
    · exact tbl_pos _
    · exact wseq_pos l c _ w h
theorem sidx_get (s : ByteArray) (k : Nat) (h : k < s.size) : sidxPV (pS s) (pI (k : Int)) = some (pU ((s.data.toList.getD k 0).toNat : Int)) := by
  have h0 : (0 : Int) ≤ (k : Int) := by omega
  have hl : k < s.data.toList.length := by simpa using h
  simp only [sidxPV, h0, if_true, Int.toNat_natCast]
  have : s[k]? = some (s.data.toList.getD k 0) := by
    rw [getElem?_pos s k h]
    simp only [List.getD, List.getElem?_eq_getElem hl, Option.getD_some]
    rfl
  rw [this]
  rfl

abbrev stB (ws : List (Int × ByteArray)) (x : ByteArray) (n k : Nat) (wt : UInt8) (i : Nat) : List PV := [pRow encW ws, pS x, pI (n : Int), pI (k : Int), pU (wt.toNat : Int), pI (i : Int)]
set_option maxHeartbeats 4000000 in
theorem told (k0 : Nat) : ToldF 9 (EL k0) (spec R) := by
  refine told_by F _ (bodyOf Try.prog 9) Try.func9 (by kernel_rfl) shB (by kernel_rfl) ?_ ?_
  · intro ps qs h i hi
    obtain ⟨b, l, c, _, _, _, _, rfl, rfl⟩ := of_spec h
    simp [shB] at hi
    match i, hi with
    | 0, hi => exact ⟨_, rfl, rfl⟩
    | 1, hi => simp at hi
    | 2, hi => exact ⟨_, rfl, rfl⟩
    | i + 3, hi => simp at hi
  · intro C ps qs hF h a w hsh
    obtain ⟨b, l, c, hb, hl, hz, hc, rfl, rfl⟩ := of_spec h
    show wpL Try.prog flB _ a w
    have fin : ∀ qs a1 w1, qs = [pB true] → InShape C shBR qs a1 w1 → (AX.ret = .normal → wpL Try.prog [] (fun e a' w' => (e = .normal ∨ e = .ret) ∧ ∃ sh' ps' es, InShape C sh' ps' a' w' ∧ resTo Try.prog Try.f9 sh' (EL k0) = some es ∧ evs (fun i => ps'[i]?) F es = some [pB true]) a1 w1) ∧ (AX.ret ≠ .normal → (AX.ret.to = .normal ∨ AX.ret.to = .ret) ∧ ∃ sh' ps' es, InShape C sh' ps' a1 w1 ∧ resTo Try.prog Try.f9 sh' (EL k0) = some es ∧ evs (fun i => ps'[i]?) F es = some [pB true]) := by
      rintro qs a1 w1 rfl h1
      exact ⟨fun h => (by cases h), fun _ => ⟨.inr rfl, shBR, _, [SX.var 0], h1, by kernel_rfl, rfl⟩⟩
    by_cases hb1 : 24 < b.size
    · rw [← List.append_nil flB]
      refine seg_ok names_ok mixed_ok orcF_ok q1 hsh ?_ (fun qs a1 w1 hq h1 => fin qs a1 w1 (by simp [evs, SX.ev] at hq; exact hq.symm) h1)
      simp only [List.mem_cons, List.not_mem_nil, or_false, forall_eq_or_imp, forall_eq]
      simp [Base.ev, SX.ev, evs, hF, slenPV, binPV, F3, t3, Value.oneCell']
      omega
    by_cases hl1 : 20 < l.length
    · rw [← List.append_nil flB]
      refine seg_ok names_ok mixed_ok orcF_ok q2 hsh ?_ (fun qs a1 w1 hq h1 => fin qs a1 w1 (by simp [evs, SX.ev] at hq; exact hq.symm) h1)
      simp only [List.mem_cons, List.not_mem_nil, or_false, forall_eq_or_imp, forall_eq]
      simp [Base.ev, SX.ev, evs, hF, slenPV, lenPV_row, binPV, F3, t3, Value.oneCell']
      omega
    have ok : OkP l 0 := ⟨by omega, by omega, hz⟩
    have e22 : F 22 [pI 8, pRow encU l, pI 0] = some [pRow encW (writes l 0 8).1, pRow encU l, pI ((writes l 0 8).2 : Int)] := F22 (most := 8) (n := 0) (by omega) ok
    have hws : ∀ w ∈ (writes l 0 8).1, 0 ≤ w.1 ∧ w.1 < 10 ∧ w.2.size ≤ 14 := wseq_ok l _ _
    have hwp : ∀ w ∈ (writes l 0 8).1, 1 ≤ w.2.size := wseq_pos l _ _
    have hwl : (writes l 0 8).1.length ≤ 8 := by
      have := numV_lt (l := l) (n := 0) (m := 9) (by omega)
      simp only [writes, wseq_len]
      show numV l 0 9 ≤ 8
      omega
    generalize (writes l 0 8).2 = n2 at e22
    generalize (writes l 0 8).1 = ws at e22 hws hwl hwp
    have hws' : ∀ w ∈ ws, -9223372036854775808 ≤ w.1 ∧ w.1 ≤ 9223372036854775807 ∧ w.2.size ≤ 1000000 := fun w hw => by
      obtain ⟨h1, h2, h3⟩ := hws w hw
      omega
    have hbl : b.data.toList.length = b.size := by simp
    have lenOf : ∀ ws' : List (Int × ByteArray), (allW b.data.toList ws').length ≤ 24 := fun ws' => by have := allW_len ws' b.data.toList; omega
    have g1 : F 1 [pS b, pRow encW ws] = some [pS (bs (allW b.data.toList ws))] := F1 (by omega) (by omega) hws'
    obtain ⟨k, hk⟩ : ∃ k, k = c % 24 := ⟨_, rfl⟩
    have hk24 : k < 24 := by rw [hk]; exact Nat.mod_lt _ (by omega)
    have w0 : ((c : Int).tmod 24) = (k : Int) := by rw [hk]; rfl
    have w1 : IntKind.i64.wrap (k : Int) = (k : Int) := wrapI _ (by omega) (by omega)
    have loop : ∀ a w, InShape C shBl (stB ws (bs (allW b.data.toList ws)) b.size k (b.data.toList.getD k 0) 0) a w → wpL Try.prog (.block (blockId (nth flB 12)) (.loop (loopBody (nth flB 12))) :: flB.drop 13) (fun e a' w' => (e = .normal ∨ e = .ret) ∧ ∃ sh' ps' es, InShape C sh' ps' a' w' ∧ resTo Try.prog Try.f9 sh' (EL k0) = some es ∧ evs (fun i => ps'[i]?) F es = some [pB true]) a w := by
      intro a w hin
      refine block_loop (fun q a w => ∃ i, i ≤ ws.length ∧ q = ws.length - i ∧ InShape C shBl (stB ws (bs (allW b.data.toList ws)) (allW b.data.toList (ws.take i)).length k ((allW b.data.toList (ws.take i)).getD k 0) i) a w) ?_ (n := ws.length) ⟨0, by omega, by omega, by simpa [allW] using hin⟩
      rintro q a w ⟨i, hi, rfl, hin⟩
      show wpL Try.prog lpB _ a w
      rw [← List.append_nil lpB]
      have hL := lenOf (ws.take i)
      by_cases hlt : i < ws.length
      · have hstep : allW b.data.toList (ws.take (i + 1)) = putW (allW b.data.toList (ws.take i)) ws[i] := by
          rw [List.take_add_one, List.getElem?_eq_getElem hlt]
          simp only [allW, Option.toList_some, List.foldl_append, List.foldl_cons, List.foldl_nil]
        obtain ⟨c0', c1'⟩ := cellW2 ws i hlt
        obtain ⟨z1, z2, z3⟩ := hws _ (List.getElem_mem hlt)
        have z4 := hwp _ (List.getElem_mem hlt)
        have i1 : ∀ (x : ByteArray) (n : Nat) (wt : UInt8), (Fact.idx (var 0) (var 5) 2 1).holds (C.with (stB ws x n k wt i)) := fun _ _ _ => idx_row encW ws i 2 1 rfl hlt (by decide)
        have i2 : ∀ (x : ByteArray) (n : Nat) (wt : UInt8), (Fact.idx (var 0) (var 5) 2 2).holds (C.with (stB ws x n k wt i)) := fun _ _ _ => idx_row encW ws i 2 2 rfl hlt (by decide)
        generalize allW b.data.toList (ws.take i) = L at *
        generalize bs (allW b.data.toList ws) = x at *
        have done : ∀ st', st' = stB ws x (putW L ws[i]).length k ((putW L ws[i]).getD k 0) (i + 1) → ∀ a1 w1, InShape C shBl st' a1 w1 → ∃ n', n' < ws.length - i ∧ ∃ j, j ≤ ws.length ∧ n' = ws.length - j ∧ InShape C shBl (stB ws x (allW b.data.toList (ws.take j)).length k ((allW b.data.toList (ws.take j)).getD k 0) j) a1 w1 := fun st' hst a1 w1 h => ⟨ws.length - (i + 1), by omega, i + 1, by omega, rfl, by rw [hstep, ← hst]; exact h⟩
        generalize ws[i] = y at *
        obtain ⟨o, s⟩ := y
        simp only at z1 z2 z3 z4 c0' c1'
        obtain ⟨o, rfl⟩ : ∃ o' : Nat, o = (o' : Int) := ⟨o.toNat, by omega⟩
        have hmay : mayW ((o : Int), s) = true := by simp [mayW]; omega
        have pl := put_len L o s hmay
        have pg := put_getD L o s k hmay
        have v1 : IntKind.i64.wrap ((o : Int) + (s.size : Int)) = (o : Int) + (s.size : Int) := wrapI _ (by omega) (by omega)
        have v3 : IntKind.i64.wrap ((i : Int) + 1) = (i : Int) + 1 := wrapI _ (by omega) (by omega)
        have pl' : (max (L.length : Int) ((o : Int) + (s.size : Int))) = ((putW L ((o : Int), s)).length : Int) := by rw [pl]; omega
        by_cases h1 : o ≤ k
        · by_cases h2 : k < o + s.size
          · obtain ⟨d, hd⟩ : ∃ d, d = k - o := ⟨_, rfl⟩
            have v2 : IntKind.i64.wrap ((k : Int) - (o : Int)) = (d : Int) := by rw [wrapI _ (by omega) (by omega)]; omega
            have v4 := sidx_get s d (by omega)
            have hg : (putW L ((o : Int), s)).getD k 0 = s.data.toList.getD d 0 := by rw [pg, if_pos ⟨h1, h2⟩, hd]
            generalize s.data.toList.getD d 0 = wt at v4 hg
            refine seg_ok names_ok mixed_ok orcF_ok b11 hin ?_ ?_
            · simp only [List.mem_cons, List.not_mem_nil, or_false, forall_eq_or_imp, forall_eq]
              simp [-holds_idx, Base.ev, SX.ev, evs, hF, lenPV_row, slenPV, binPV, r_max, c0', c1', i1, i2, v1, v2, v3, v4, Value.oneCell', hlt]
              omega
            · intro qs a1 w1' hq hx
              refine ⟨fun _ => .inl ⟨rfl, ?_⟩, fun h => absurd rfl h⟩
              simp [evs, SX.ev, slenPV, binPV, r_max, c0', c1', v1, v2, v3, v4] at hq
              exact done qs (by rw [← hq, pl', hg]; rfl) a1 w1' hx
          · have hg : (putW L ((o : Int), s)).getD k 0 = L.getD k 0 := by rw [pg, if_neg (by omega)]
            refine seg_ok names_ok mixed_ok orcF_ok b10 hin ?_ ?_
            · simp only [List.mem_cons, List.not_mem_nil, or_false, forall_eq_or_imp, forall_eq]
              simp [-holds_idx, Base.ev, SX.ev, evs, hF, lenPV_row, slenPV, binPV, r_max, c0', c1', i1, i2, v1, v3, Value.oneCell', hlt]
              omega
            · intro qs a1 w1' hq hx
              refine ⟨fun _ => .inl ⟨rfl, ?_⟩, fun h => absurd rfl h⟩
              simp [evs, SX.ev, slenPV, binPV, r_max, c0', c1', v1, v3] at hq
              exact done qs (by rw [← hq, pl', hg]; rfl) a1 w1' hx
        · have hg : (putW L ((o : Int), s)).getD k 0 = L.getD k 0 := by rw [pg, if_neg (by omega)]
          refine seg_ok names_ok mixed_ok orcF_ok b0 hin ?_ ?_
          · simp only [List.mem_cons, List.not_mem_nil, or_false, forall_eq_or_imp, forall_eq]
            simp [-holds_idx, Base.ev, SX.ev, evs, hF, lenPV_row, slenPV, binPV, r_max, c0', c1', i1, i2, v1, v3, Value.oneCell', hlt]
            omega
          · intro qs a1 w1' hq hx
            refine ⟨fun _ => .inl ⟨rfl, ?_⟩, fun h => absurd rfl h⟩
            simp [evs, SX.ev, slenPV, binPV, r_max, c0', c1', v1, v3] at hq
            exact done qs (by rw [← hq, pl', hg]; rfl) a1 w1' hx
      · have hie : i = ws.length := by omega
        rw [hie, List.take_length] at hin
        have hL2 := lenOf ws
        have hxs : (bs (allW b.data.toList ws)).size = (allW b.data.toList ws).length := bs_size _
        have hxl : (bs (allW b.data.toList ws)).data.toList = allW b.data.toList ws := bs_list _
        generalize bs (allW b.data.toList ws) = x at *
        generalize allW b.data.toList ws = L at *
        refine seg_ok names_ok mixed_ok orcF_ok ex hin ?_ ?_
        · simp only [List.mem_cons, List.not_mem_nil, or_false, forall_eq_or_imp, forall_eq]
          simp [Base.ev, SX.ev, lenPV_row, binPV, Value.oneCell']
        · intro qs a1 w1' hq h1
          refine ⟨fun h => (by cases h), fun _ => .inr (.inl ⟨by rw [show blockId (nth flB 12) = 0 by kernel_rfl]; rfl, ?_⟩)⟩
          simp [evs, SX.ev] at hq
          subst hq
          rw [← List.append_nil (flB.drop 13)]
          by_cases hkn : L.length ≤ k
          · refine seg_ok names_ok mixed_ok orcF_ok post1 h1 ?_ (fun qs a1 w1 hq h1 => fin qs a1 w1 (by simp [evs, SX.ev] at hq; exact hq.symm) h1)
            simp only [List.mem_cons, List.not_mem_nil, or_false, forall_eq_or_imp, forall_eq]
            simp [Base.ev, SX.ev, slenPV, binPV, hxs, Value.oneCell']
            omega
          · have v4 := sidx_get x k (by omega)
            rw [hxl] at v4
            refine seg_ok names_ok mixed_ok orcF_ok post0 h1 ?_ (fun qs a1 w1 hq h1 => fin qs a1 w1 (by simp [evs, SX.ev] at hq; exact hq.symm) h1)
            simp only [List.mem_cons, List.not_mem_nil, or_false, forall_eq_or_imp, forall_eq]
            simp [-holds_idx, Base.ev, SX.ev, slenPV, binPV, hxs, v4, Value.oneCell']
            omega
    rw [cutB]
    by_cases hkb : k < b.size
    · have v4 := sidx_get b k hkb
      generalize b.data.toList.getD k 0 = wt at v4 loop
      refine seg_ok names_ok mixed_ok orcF_ok pre1 hsh ?_ ?_
      · simp only [List.mem_cons, List.not_mem_nil, or_false, forall_eq_or_imp, forall_eq]
        simp [Base.ev, SX.ev, evs, hF, slenPV, lenPV_row, binPV, convPV, F3, t3, t22, t1, e22, w0, w1, g1, v4, Value.oneCell']
        omega
      · intro qs a1 w1' hq h1
        refine ⟨fun _ => ?_, fun h => absurd rfl h⟩
        simp [evs, SX.ev, hF, slenPV, binPV, convPV, e22, w0, w1, g1, v4] at hq
        subst hq
        exact loop a1 w1' h1
    · have hg : b.data.toList.getD k 0 = 0 := by simp [List.getD, List.getElem?_eq_none (show b.data.toList.length ≤ k by omega)]
      refine seg_ok names_ok mixed_ok orcF_ok pre0 hsh ?_ ?_
      · simp only [List.mem_cons, List.not_mem_nil, or_false, forall_eq_or_imp, forall_eq]
        simp [Base.ev, SX.ev, evs, hF, slenPV, lenPV_row, binPV, convPV, F3, t3, t22, t1, e22, w0, w1, g1, Value.oneCell']
        omega
      · intro qs a1 w1' hq h1
        refine ⟨fun _ => ?_, fun h => absurd rfl h⟩
        simp [evs, SX.ev, hF, slenPV, binPV, convPV, e22, w0, w1, g1] at hq
        subst hq
        refine loop a1 w1' ?_
        rw [hg]
        exact h1
theorem walk (w : World) (s : ByteArray) (hs : s.size ≤ maxLen) (v : Value) (len : Nat) (Z : Nat → Int) (hg : IsRow .u8 w v len Z) (a : Int) (wa : (Lit.int .u8 a).wf = true) :
    Calls Try.prog 9 #[.string s, v, .int .u8 a] w fun e w' => e = .returned (.bool true) ∧ Ex w w' := by
  obtain ⟨l, hb, hlen, hr⟩ := rowU hg
  obtain ⟨h0, h1⟩ := bounds_u8 wa
  obtain ⟨c, rfl⟩ : ∃ c : Nat, a = (c : Int) := ⟨a.toNat, by omega⟩
  refine (told 0 w (fun k => k < w.heap.size) [.string s, v, .int .u8 (c : Int)] [pS s, pRow encU l, pU (c : Int)] [pB true] (spec_of fR ⟨s, l, c, maxLen_le hs, hlen, hb, by omega, rfl, rfl⟩) rfl rfl (fun _ h => h) (fun i p u hp hu => ?_)).mono ?_
  · match i, hp, hu with
    | 0, hp, hu => simp at hp hu; subst hp; subst hu; exact ⟨plain_reads rfl, fun _ w2 _ => plain_reads rfl⟩
    | 1, hp, hu => simp at hp hu; subst hp; subst hu; exact ⟨hr, fun _ w2 hw2 => Reads.keep hw2 _ hr⟩
    | 2, hp, hu => simp at hp hu; subst hp; subst hu; exact ⟨plain_reads rfl, fun _ w2 _ => plain_reads rfl⟩
    | i + 3, hp, hu => simp at hp
  · rintro e w' ⟨us, h1, _, h2, rfl, hex⟩
    obtain ⟨x, rfl⟩ : ∃ x, us = [x] := by match us, h1 with | [x], _ => exact ⟨x, rfl⟩
    have := h2 0 (pB true) x rfl rfl w' (fun _ _ => rfl)
    simp only [Reads] at this
    rw [this.1]
    exact ⟨rfl, hex⟩
end Go.Proofs.Ytlfdkccmfbfgiaa.fileBytes
