/- What a head names; a disk mended: told. -/
import Derived.Test.YtegfdigljpnhcaaJhd
import Derived.Test.YtegfdigljpnhcaaJly
import Derived.Test.YtegfdigljpnhcaaJsc
import Derived.Test.YtegfdigljpnhcaaJnm
namespace Go.Proofs.Ytegfdigljpnhcaa.jcm
open Go Go.RowKit eng SX Fact dsk jhd
open jmt hiding Pt Calm
open fil
open rdk hiding dbox isApp hApp
open jly (ELay pvY)
open jnm (ENam pv1 pv2)
open jsc (ESct EFil pvM)
open symD hiding pRow_inj
set_option linter.unusedVariables false
set_option linter.unusedSimpArgs false
set_option maxRecDepth 1000000

def ENm (k : Nat) : FnE := { k := k, ins := [some 4, none], leaks := [], outs := [none], kinds := [.row] }
def EMd (k : Nat) : FnE := { k := k, ins := [some 4, none], leaks := [true, true], outs := [some 4, none], kinds := [.row, .row, .num, .num, .truth] }
def ECm (k : Nat) : FnE := { k := k, ins := [some 4, none, none], leaks := [true, true], outs := [some 4, none], kinds := [.row, .row, .num, .num, .truth] }
def tabN (f : FuncId) : Option FnE := cond (Nat.beq f 62) (some (EMr 1)) (cond (Nat.beq f 63) (some (ELs 2)) (cond (Nat.beq f 35) (some (EHd 3)) none))
def tabX (f : FuncId) : Option (FnE × List Value) := cond (Nat.beq f 29) (some (ENam 4, [pv1, pv2])) none
def orcN : Orc := orcOr (orcFn tabN) (orcX tabX)
def dkbox : BoxT := ⟨28, 0, false, [.leaf, .leaf, .leaf, .leaf], none, false⟩
noncomputable def flN := flat (bodyOf Try.prog 40)
noncomputable def lpN := flat (loopBody (nth flN 8))
def shN : Shape := ⟨[(0, .agg 4), (1, .leaf)], [], [some false, some false, none, none, none], 47, 40⟩
def shNl : Shape := ⟨[(1, .leaf), (2, .ptr 0 0 0 0), (7, .own 1 8 2), (27, .leaf), (28, .leaf), (29, .leaf)], [dkbox, pbox 8], [none, some false, none, none, some false, some false, none, none], 47, 40⟩
def shNP : Shape := ⟨[], [], [], 47, 40⟩
def shNR : Shape := ⟨[(4, .own 0 0 2)], [pbox 0], [], 47, 40⟩
def pv3 : Value := (.iface 9 (.string { data := { toList := [UInt8.ofNat 106, UInt8.ofNat 114, UInt8.ofNat 110, UInt8.ofNat 108, UInt8.ofNat 58, UInt8.ofNat 32, UInt8.ofNat 116, UInt8.ofNat 104, UInt8.ofNat 101, UInt8.ofNat 32, UInt8.ofNat 104, UInt8.ofNat 101, UInt8.ofNat 97, UInt8.ofNat 100, UInt8.ofNat 32, UInt8.ofNat 105, UInt8.ofNat 115, UInt8.ofNat 32, UInt8.ofNat 110, UInt8.ofNat 111, UInt8.ofNat 116, UInt8.ofNat 32, UInt8.ofNat 114, UInt8.ofNat 105, UInt8.ofNat 103, UInt8.ofNat 104, UInt8.ofNat 116] } }))
theorem n3 : segTo Try.prog orcN 10000 flN shN [0, 1] shNP [] = some (.panic pv3, [.fn 62 (EMr 1) [.var 0, .var 1, .var 2, .var 3, .var 4], .ok (.fn 1 [.var 0, .var 1, .var 2, .var 3, .var 4] 0), .fn 63 (ELs 2) [.fn 1 [.var 0, .var 1, .var 2, .var 3, .var 4] 0], Fact.fx 29 (ENam 4) [(pv1), (pv2)] [.var 0, .var 1, .var 2, .var 3, .var 4, .fn 2 [.fn 1 [.var 0, .var 1, .var 2, .var 3, .var 4] 0] 0], .is (.fn 4 [.var 0, .var 1, .var 2, .var 3, .var 4, .fn 2 [.fn 1 [.var 0, .var 1, .var 2, .var 3, .var 4] 0] 0] 0) (.int .i64 0), .fn 35 (EHd 3) [.fn 2 [.fn 1 [.var 0, .var 1, .var 2, .var 3, .var 4] 0] 0], .ok (.fn 3 [.fn 2 [.fn 1 [.var 0, .var 1, .var 2, .var 3, .var 4] 0] 0] 0), .ok (.bin .neq (.fn 1 [.var 0, .var 1, .var 2, .var 3, .var 4] 0) (.fn 3 [.fn 2 [.fn 1 [.var 0, .var 1, .var 2, .var 3, .var 4] 0] 0] 0)), .is (.bin .neq (.fn 1 [.var 0, .var 1, .var 2, .var 3, .var 4] 0) (.fn 3 [.fn 2 [.fn 1 [.var 0, .var 1, .var 2, .var 3, .var 4] 0] 0] 0)) (.bool true)], []) := by kernel_rfl
theorem n1 : segTo Try.prog orcN 10000 flN shN [1] shNP [] = some (.panic ((pv1)), [.fn 62 (EMr 1) [.var 0, .var 1, .var 2, .var 3, .var 4], .ok (.fn 1 [.var 0, .var 1, .var 2, .var 3, .var 4] 0), .fn 63 (ELs 2) [.fn 1 [.var 0, .var 1, .var 2, .var 3, .var 4] 0], Fact.fx 29 (ENam 4) [(pv1), (pv2)] [.var 0, .var 1, .var 2, .var 3, .var 4, .fn 2 [.fn 1 [.var 0, .var 1, .var 2, .var 3, .var 4] 0] 0], .is (.fn 4 [.var 0, .var 1, .var 2, .var 3, .var 4, .fn 2 [.fn 1 [.var 0, .var 1, .var 2, .var 3, .var 4] 0] 0] 0) (.int .i64 1)], []) := by kernel_rfl
theorem n2 : segTo Try.prog orcN 10000 flN shN [2] shNP [] = some (.panic ((pv2)), [.fn 62 (EMr 1) [.var 0, .var 1, .var 2, .var 3, .var 4], .ok (.fn 1 [.var 0, .var 1, .var 2, .var 3, .var 4] 0), .fn 63 (ELs 2) [.fn 1 [.var 0, .var 1, .var 2, .var 3, .var 4] 0], Fact.fx 29 (ENam 4) [(pv1), (pv2)] [.var 0, .var 1, .var 2, .var 3, .var 4, .fn 2 [.fn 1 [.var 0, .var 1, .var 2, .var 3, .var 4] 0] 0], .is (.fn 4 [.var 0, .var 1, .var 2, .var 3, .var 4, .fn 2 [.fn 1 [.var 0, .var 1, .var 2, .var 3, .var 4] 0] 0] 0) (.int .i64 2)], []) := by kernel_rfl
theorem npre : segTo Try.prog orcN 10000 (flN.take 8) shN [0, 0] shNl [(2, 0), (4, 0)] = some (.normal, [.fn 62 (EMr 1) [.var 0, .var 1, .var 2, .var 3, .var 4], .ok (.fn 1 [.var 0, .var 1, .var 2, .var 3, .var 4] 0), .fn 63 (ELs 2) [.fn 1 [.var 0, .var 1, .var 2, .var 3, .var 4] 0], Fact.fx 29 (ENam 4) [(pv1), (pv2)] [.var 0, .var 1, .var 2, .var 3, .var 4, .fn 2 [.fn 1 [.var 0, .var 1, .var 2, .var 3, .var 4] 0] 0], .is (.fn 4 [.var 0, .var 1, .var 2, .var 3, .var 4, .fn 2 [.fn 1 [.var 0, .var 1, .var 2, .var 3, .var 4] 0] 0] 0) (.int .i64 0), .fn 35 (EHd 3) [.fn 2 [.fn 1 [.var 0, .var 1, .var 2, .var 3, .var 4] 0] 0], .ok (.fn 3 [.fn 2 [.fn 1 [.var 0, .var 1, .var 2, .var 3, .var 4] 0] 0] 0), .ok (.bin .neq (.fn 1 [.var 0, .var 1, .var 2, .var 3, .var 4] 0) (.fn 3 [.fn 2 [.fn 1 [.var 0, .var 1, .var 2, .var 3, .var 4] 0] 0] 0)), .is (.bin .neq (.fn 1 [.var 0, .var 1, .var 2, .var 3, .var 4] 0) (.fn 3 [.fn 2 [.fn 1 [.var 0, .var 1, .var 2, .var 3, .var 4] 0] 0] 0)) (.bool false), .ok (.len (.fn 2 [.fn 1 [.var 0, .var 1, .var 2, .var 3, .var 4] 0] 0)), same (.len (.fn 2 [.fn 1 [.var 0, .var 1, .var 2, .var 3, .var 4] 0] 0)) (.len (.fn 2 [.fn 1 [.var 0, .var 1, .var 2, .var 3, .var 4] 0] 0)), upto (.len (.fn 2 [.fn 1 [.var 0, .var 1, .var 2, .var 3, .var 4] 0] 0)) 4294967296, .ok (.len (.fn 2 [.fn 1 [.var 0, .var 1, .var 2, .var 3, .var 4] 0] 0)), .ok (.var 4), .ok (.len (.fn 2 [.fn 1 [.var 0, .var 1, .var 2, .var 3, .var 4] 0] 0)), .ok (.con (.int .i64 0)), .ok (.var 2), .ok (.var 3), same (.len (rop (ROp.rep [.int .i64 0, .string { data := { toList := [] } }]) [.len (.fn 2 [.fn 1 [.var 0, .var 1, .var 2, .var 3, .var 4] 0] 0)])) (.len (rop (ROp.rep [.int .i64 0, .string { data := { toList := [] } }]) [.len (.fn 2 [.fn 1 [.var 0, .var 1, .var 2, .var 3, .var 4] 0] 0)]))], [.var 4, .fn 2 [.fn 1 [.var 0, .var 1, .var 2, .var 3, .var 4] 0] 0, .len (.fn 2 [.fn 1 [.var 0, .var 1, .var 2, .var 3, .var 4] 0] 0), .con (.int .i64 0), .var 0, .var 1, .var 2, .var 3, rop (ROp.rep [.int .i64 0, .string { data := { toList := [] } }]) [.len (.fn 2 [.fn 1 [.var 0, .var 1, .var 2, .var 3, .var 4] 0] 0)]]) := by kernel_rfl
theorem nex : segTo Try.prog orcN 10000 lpN shNl [0] shNl [(0, 0), (1, 0)] = some (.exit 0, [.ok (.bin .lss (.var 3) (.var 2)), .is (.bin .lss (.var 3) (.var 2)) (.bool false), .ok (.var 0), .ok (.var 2), .ok (.var 3), .ok (.var 6), .ok (.var 7), same (.len (.var 8)) (.len (.var 8))], [.var 0, .var 1, .var 2, .var 3, .var 4, .var 5, .var 6, .var 7, .var 8]) := by kernel_rfl
theorem non : segTo Try.prog orcN 10000 lpN shNl [1] shNl [(0, 0), (1, 0)] = some (.normal, [.ok (.bin .lss (.var 3) (.var 2)), .is (.bin .lss (.var 3) (.var 2)) (.bool true), .idx (.var 1) (.var 3) 1 1, .idx (.var 1) (.var 3) 1 1, .ok (.cell (.var 1) (.var 3) 1 0), .ok (.bin .add (.var 0) (.con (.int .i64 1))), .ok (.bin .add (.bin .add (.var 0) (.con (.int .i64 1))) (.var 3)), .fn 62 (EMr 1) [.var 4, .var 5, .var 6, .var 7, .bin .add (.bin .add (.var 0) (.con (.int .i64 1))) (.var 3)], .ok (.fn 1 [.var 4, .var 5, .var 6, .var 7, .bin .add (.bin .add (.var 0) (.con (.int .i64 1))) (.var 3)] 0), rng (.var 3) (.len (.var 8)), .idx (.var 8) (.var 3) 2 2, .ok (.bin .add (.var 3) (.con (.int .i64 1))), .ok (.var 0), .ok (.var 2), .ok (.bin .add (.var 3) (.con (.int .i64 1))), .ok (.var 6), .ok (.var 7), same (.len (.var 8)) (.len (rop (ROp.upd 2 0) [.var 8, .var 3, .cell (.var 1) (.var 3) 1 0, .fn 1 [.var 4, .var 5, .var 6, .var 7, .bin .add (.bin .add (.var 0) (.con (.int .i64 1))) (.var 3)] 0]))], [.var 0, .var 1, .var 2, .bin .add (.var 3) (.con (.int .i64 1)), .var 4, .var 5, .var 6, .var 7, rop (ROp.upd 2 0) [.var 8, .var 3, .cell (.var 1) (.var 3) 1 0, .fn 1 [.var 4, .var 5, .var 6, .var 7, .bin .add (.bin .add (.var 0) (.con (.int .i64 1))) (.var 3)] 0]]) := by kernel_rfl
theorem npost : segTo Try.prog orcN 10000 (flN.drop 9) shNl [] shNR [(1, 0)] = some (.ret, [same (.len (.var 8)) (.len (.var 8))], [.var 8]) := by kernel_rfl

@[simp] theorem holds_fxA (B : Base) (f : FuncId) (E : FnE) (pans : List Value) (es : List SX) : (Fact.fx f E pans es).holds B ↔ ToldX f E pans (B.F E.k) ∧ ∃ ps qs, evs B.s B.F es = some ps ∧ B.F E.k ps = some qs := Iff.rfl
@[simp] theorem kNam (k : Nat) : (ENam k).k = k := rfl
@[simp] theorem kNm (k : Nat) : (ENm k).k = k := rfl
theorem orcN_ok : OrcOk Try.prog orcN := orcOr_ok (orcFn_ok tabN) (orcX_ok tabX)
/-- What a head names, or why nothing. -/
def nmQ (L : List ByteArray) : List PV :=
  if 1 ≤ (listedB (L.getD 8 e0)).length ∧ (listedB (L.getD 8 e0)).length ≤ 8 then
    (if rising 8 (-1) (ints (listedB (L.getD 8 e0))) = true then
      (if L.getD 8 e0 = headB (listedB (L.getD 8 e0)) then [pI 0, pRow encP (pairsF L 9 (listedB (L.getD 8 e0)))] else [pI ((2 + 1 : Nat) : Int)])
    else [pI ((1 + 1 : Nat) : Int)])
  else [pI ((0 + 1 : Nat) : Int)]
def RNm (ps qs : List PV) : Prop := ∃ (L : List ByteArray) (a : Nat), jmt.Calm L ∧ a ≤ 1000 ∧ ps = pD (dk L a) ++ [pI 8] ∧ qs = nmQ L
theorem fNm : ∀ ps q1 q2, RNm ps q1 → RNm ps q2 → q1 = q2 := by
  rintro ps q1 q2 ⟨L, a, _, _, rfl, rfl⟩ ⟨L', a', _, _, h, rfl⟩
  obtain ⟨h1, _⟩ := pD_app h
  simp only [dk, D.mk.injEq] at h1
  rw [h1.1]
/-- As what is named says it. -/
theorem nmQ_some {L : List ByteArray} (hc : jmt.Calm L) {l : List jmt.Pt} (h : named L 8 = some l) : nmQ L = [pI 0, pRow encP l] := by
  unfold named at h
  split at h
  · rename_i hn
    cases h
    have h1 := hn.1
    simp only [nameOk, Bool.and_eq_true, decide_eq_true_eq, hc.n] at h1
    have h12 : rising 8 (-1) (ints (listedB (L.getD 8 e0))) = true := h1.2
    rw [nmQ, if_pos ⟨h1.1.1.1, by omega⟩, if_pos h12, if_pos hn.2]
  · cases h
theorem nmQ_none {L : List ByteArray} (hc : jmt.Calm L) (h : named L 8 = none) : ∃ j, j < 3 ∧ nmQ L = [pI ((j + 1 : Nat) : Int)] := by
  unfold nmQ
  split
  · rename_i h1
    split
    · rename_i h2
      split
      · rename_i h3
        exfalso
        unfold named at h
        rw [if_pos] at h
        · cases h
        · refine ⟨?_, h3⟩
          simp only [nameOk, Bool.and_eq_true, decide_eq_true_eq, hc.n]
          exact ⟨⟨⟨h1.1, by omega⟩, by omega⟩, h2⟩
      · exact ⟨2, by omega, rfl⟩
    · exact ⟨1, by omega, rfl⟩
  · exact ⟨0, by omega, rfl⟩
noncomputable def F : Fns := fun k => match k with | 1 => spec RMr | 2 => spec RLs | 3 => spec RHd | 4 => spec jnm.RNam | _ => fun _ => none
theorem F1 {L : List ByteArray} {a : Nat} (hc : jmt.Calm L) (ha : a ≤ 1000) {i : Nat} (hi : i < 17) : F 1 [pRow encS L, pRow encP [], pI (a : Int), pB false, pI (i : Int)] = some [pS (L.getD i e0)] :=
  spec_of fMr ⟨dk L a, i, ok_dk hc ha, by simp [hasB, hc.n]; omega, rfl, rfl⟩
theorem F2 {b : ByteArray} (h : b.size = 32) : F 2 [pS b] = some [pRow encI (ints (listedB b))] := spec_of fLs ⟨b, h, rfl, rfl⟩
theorem F3 {a : List Nat} (h : a.length ≤ 16) (h2 : ∀ x ∈ a, x < 256) : F 3 [pRow encI (ints a)] = some [pS (headB a)] := spec_of fHd ⟨a, h, h2, rfl, rfl⟩
theorem F4 {L : List ByteArray} {a : Nat} (hc : jmt.Calm L) (ha : a ≤ 1000) {x : List Nat} (hx : x.length ≤ 16) : F 4 [pRow encS L, pRow encP [], pI (a : Int), pB false, pI 8, pRow encI (ints x)] = some (jnm.nameQ L.length 8 (ints x)) :=
  spec_of jnm.fNam ⟨dk L a, 8, ints x, ok_dk hc ha, by omega, by simp; omega, rfl, rfl⟩
theorem listed_few (b : ByteArray) : (listedB b).length ≤ 16 := by
  unfold listedB; split
  · rename_i h; simp; exact h.2
  · simp
theorem listed_lt (b : ByteArray) : ∀ x ∈ listedB b, x < 256 := by
  intro x hx
  unfold listedB at hx
  split at hx
  · obtain ⟨k, _, rfl⟩ := List.mem_map.1 hx; exact bt_lt _ _
  · cases hx
theorem cutN : flN = flN.take 8 ++ .block (blockId (nth flN 8)) (.loop (loopBody (nth flN 8))) :: flN.drop 9 := by kernel_rfl
def nmK (L : List ByteArray) (x : List Nat) (k : Nat) : List jmt.Pt := pairsF L 9 (x.take k) ++ List.replicate (x.length - k) (0, e0)
theorem nmK_len (L : List ByteArray) (x : List Nat) (k : Nat) (hk : k ≤ x.length) : (nmK L x k).length = x.length := by simp [nmK, pairs_len]; omega
theorem pairs_app (L : List ByteArray) : ∀ (a b : List Nat) (h : Nat), pairsF L h (a ++ b) = pairsF L h a ++ pairsF L (h + a.length) b
  | [], b, h => by simp [pairsF]
  | x :: a, b, h => by
    simp only [List.cons_append, pairsF, pairs_app L a b (h + 1), List.length_cons]
    rw [show h + 1 + a.length = h + (a.length + 1) by omega]
theorem nmK_set (L : List ByteArray) (x : List Nat) (k : Nat) (hk : k < x.length) : (nmK L x k).set k (x[k], L.getD (9 + k) e0) = nmK L x (k + 1) := by
  have hlt : (x.take k).length = k := by rw [List.length_take]; omega
  have hl : (pairsF L 9 (x.take k)).length = k := by rw [pairs_len, hlt]
  have e : x.length - k = (x.length - (k + 1)) + 1 := by omega
  unfold nmK
  rw [e, List.replicate_succ, List.set_append_right _ _ (by omega), hl, Nat.sub_self, List.set_cons_zero]
  rw [List.take_add_one, List.getElem?_eq_getElem hk, Option.toList_some, pairs_app, hlt]
  simp only [pairsF, List.append_assoc, List.singleton_append]
theorem r_repPn (n : Nat) : ropPV (.rep [.int .i64 0, .string ⟨#[]⟩]) [pI (n : Int)] = some (pRow encP (List.replicate n (0, e0))) := by
  have h0 : (0 : Int) ≤ (n : Int) := by omega
  have : ∀ k : Nat, (List.replicate k (List.map PV.v [Value.int .i64 0, .string ⟨#[]⟩])).flatten = (encP.all (List.replicate k (0, e0))).map PV.v := fun k => by
    induction k with
    | zero => rfl
    | succ k ih => rw [List.replicate_succ, List.flatten_cons, ih, List.replicate_succ, Enc.all_cons, List.map_append]; rfl
  simp only [ropPV, h0, decide_true, cond_true, Int.toNat_natCast, this, pRow, List.length_replicate]
set_option maxHeartbeats 2000000 in
theorem toldNm (hR : ∀ k, ToldF 84 (ERead k) (spec RRead)) (k0 : Nat) : ToldX 40 (ENm k0) [pv1, pv2, pv3] (spec RNm) := by
  have t1 : ToldF 62 (EMr 1) (F 1) := toldMr hR 1
  have t2 : ToldF 63 (ELs 2) (F 2) := toldLs 2
  have t3 : ToldF 35 (EHd 3) (F 3) := toldHd 3
  have t4 : ToldX 29 (ENam 4) [pv1, pv2] (F 4) := jnm.toldNam 4
  refine told_byX F _ (bodyOf Try.prog 40) Try.func40 (by kernel_rfl) shN (by kernel_rfl) ?_ ?_
  · intro ps qs h i hi
    obtain ⟨L, a, _, _, rfl, rfl⟩ := of_spec h
    simp [shN] at hi
    match i, hi with
    | 0, hi => simp at hi
    | 1, hi => simp at hi
    | 2, hi => exact ⟨_, rfl, rfl⟩
    | 3, hi => exact ⟨_, rfl, rfl⟩
    | 4, hi => exact ⟨_, rfl, rfl⟩
    | i + 5, hi => simp at hi
  · intro C ps qs hF h ac w hsh
    obtain ⟨L, a, hc, ha, rfl, hqs⟩ := of_spec h
    simp only [pD, dk, List.cons_append, List.nil_append] at hsh
    show wpL Try.prog flN _ ac w
    have f1 : F 1 [pRow encS L, pRow encP [], pI (a : Int), pB false, pI 8] = some [pS (L.getD 8 e0)] := F1 hc ha (i := 8) (by omega)
    have hs8 : (L.getD 8 e0).size = 32 := hc.len _ (getD_mem' (by rw [hc.n]; omega))
    have f2 := F2 hs8
    have f4 := F4 hc ha (listed_few (L.getD 8 e0))
    have hfew := listed_few (L.getD 8 e0)
    have hlt := listed_lt (L.getD 8 e0)
    have f3 := F3 hfew hlt
    have hln := hc.n
    unfold nmQ at hqs
    rw [jnm.nameQ] at f4
    have hli : (ints (listedB (L.getD 8 e0))).length = (listedB (L.getD 8 e0)).length := by simp
    rw [hli, hln] at f4
    have hmin : min (((8 : Nat)) : Int) 256 = 8 := by decide
    rw [hmin] at f4
    have hpx : ∀ i : Nat, i < 17 → F 1 [pRow encS L, pRow encP [], pI (a : Int), pB false, pI (i : Int)] = some [pS (L.getD i e0)] := fun i hi => F1 hc ha hi
    generalize hb8 : L.getD 8 e0 = b at *
    generalize hx : listedB b = x at *
    by_cases d1 : 1 ≤ x.length ∧ x.length ≤ 8
    · rw [if_pos d1] at hqs
      rw [if_pos (by omega)] at f4
      cases d2 : rising 8 (-1) (ints x) with
      | false =>
        rw [if_neg (by rw [d2]; simp)] at hqs
        rw [d2] at f4
        simp only [Bool.false_eq_true, if_false] at f4
        rw [← List.append_nil flN]
        refine seg_ok names_ok mixed_ok orcN_ok n2 hsh ?_ (fun qs a1 w1 hq hx => ⟨fun h => (by cases h), fun _ => .inr ⟨1, _, _, _, hqs, rfl, rfl, hx⟩⟩)
        simp only [List.mem_cons, List.not_mem_nil, or_false, forall_eq_or_imp, forall_eq]
        simp [holds_idxP, holds_cellsP, Base.ev, SX.ev, evs, Value.oneCell', hF, f1, f2, f4, t1, t2, t4]
      | true =>
        rw [if_pos d2] at hqs
        rw [d2] at f4
        simp only [if_true] at f4
        by_cases d3 : b = headB x
        · rw [if_pos d3] at hqs
          have heq : (b.toList == (headB x).toList) = true := by rw [← d3]; simp
          clear d3
          generalize headB x = hx' at *
          rw [cutN]
          have hil : (ints x).length = x.length := by simp
          have rr : ropPV (.rep [.int .i64 0, .string ⟨#[]⟩]) [pI (x.length : Int)] = some (pRow encP (nmK L x 0)) := by rw [r_repPn]; simp [nmK, pairsF]
          have hl0 := nmK_len L x 0 (Nat.zero_le _)
          refine seg_ok names_ok mixed_ok orcN_ok npre hsh ?_ ?_
          · simp only [List.mem_cons, List.not_mem_nil, or_false, forall_eq_or_imp, forall_eq]
            simp [holds_idxP, holds_cellsP, Base.ev, SX.ev, evs, Value.oneCell', hF, lenPV_row, binPV, f1, f2, f3, f4, t1, t2, t3, t4, heq, hil, rr, hl0]
            omega
          intro qs a1 w1 hq h1
          refine ⟨fun _ => ?_, fun h => absurd rfl h⟩
          simp [evs, SX.ev, hF, lenPV_row, f1, f2, hil, rr] at hq
          subst hq
          refine block_loopX (fun n ac w => ∃ k : Nat, k ≤ x.length ∧ n = x.length - k ∧ InShape C shNl [pI 8, pRow encI (ints x), pI (x.length : Int), pI (k : Int), pRow encS L, pRow encP [], pI (a : Int), pB false, pRow encP (nmK L x k)] ac w) ?_ (n := x.length) ⟨0, by omega, by omega, h1⟩
          rintro n ac w ⟨k, hk, rfl, hin⟩
          show wpL Try.prog lpN _ ac w
          rw [← List.append_nil lpN]
          by_cases hlt : k < x.length
          · have c0 := cellN x k hlt
            have ix : IdxP (some (pRow encI (ints x))) (some (pI (k : Int))) 1 1 := idxP_row encI (ints x) k 1 1 .i64 rfl (by simpa using hlt) (by decide)
            have h1l := nmK_len L x k hk
            have h2l := nmK_len L x (k + 1) hlt
            have iy : IdxP (some (pRow encP (nmK L x k))) (some (pI (k : Int))) 2 2 := idxP_row encP _ k 2 2 .i64 rfl (by omega) (by decide)
            have v3 : IntKind.i64.wrap ((k : Int) + 1) = (k : Int) + 1 := wrapI _ (by omega) (by omega)
            have v1 : IntKind.i64.wrap (9 : Int) = 9 := by decide
            have v2 : IntKind.i64.wrap (9 + (k : Int)) = 9 + (k : Int) := wrapI _ (by omega) (by omega)
            have f5 : F 1 [pRow encS L, pRow encP [], pI (a : Int), pB false, pI (9 + (k : Int))] = some [pS (L.getD (9 + k) e0)] := by
              have := hpx (9 + k) (by omega)
              rwa [Int.natCast_add] at this
            have ru : ropPV (.upd 2 0) [pRow encP (nmK L x k), pI (k : Int), pI (x[k] : Int), pS (L.getD (9 + k) e0)] = some (pRow encP (nmK L x (k + 1))) := by
              have := r_updE encP (nmK L x k) k .i64 (x[k], L.getD (9 + k) e0) (by omega)
              rw [nmK_set L x k hlt] at this
              exact this
            have again : ∀ qs a1 w1, qs = [pI 8, pRow encI (ints x), pI (x.length : Int), pI ((k : Int) + 1), pRow encS L, pRow encP [], pI (a : Int), pB false, pRow encP (nmK L x (k + 1))] → InShape C shNl qs a1 w1 → ∃ n', n' < x.length - k ∧ ∃ k' : Nat, k' ≤ x.length ∧ n' = x.length - k' ∧ InShape C shNl [pI 8, pRow encI (ints x), pI (x.length : Int), pI (k' : Int), pRow encS L, pRow encP [], pI (a : Int), pB false, pRow encP (nmK L x k')] a1 w1 := by
              rintro qs a1 w1 rfl h
              exact ⟨x.length - (k + 1), by omega, k + 1, by omega, rfl, h⟩
            clear hpx f1 f2 f3 f4
            generalize nmK L x (k + 1) = y2 at *
            generalize nmK L x k = y1 at *
            generalize L.getD (9 + k) e0 = sk at *
            generalize (x[k] : Int) = xk at *
            refine seg_ok names_ok mixed_ok orcN_ok non hin ?_ (fun qs a1 w1 hq h1 => ⟨fun _ => .inl ⟨rfl, again qs a1 w1 (by simp [evs, SX.ev, hF, binPV, v3, v1, v2, c0, f5, ru] at hq; exact hq.symm) h1⟩, fun h => absurd rfl h⟩)
            simp only [List.mem_cons, List.not_mem_nil, or_false, forall_eq_or_imp, forall_eq]
            simp [holds_idxP, holds_cellsP, Base.ev, SX.ev, evs, Value.oneCell', hF, lenPV_row, binPV, v3, v1, v2, hlt, ix, iy, c0, f5, t1, ru, h1l, h2l]
          · have hie : k = x.length := by omega
            subst hie
            have he : nmK L x x.length = pairsF L 9 x := by simp [nmK]
            rw [he] at hin
            generalize pairsF L 9 x = y at *
            refine seg_ok names_ok mixed_ok orcN_ok nex hin ?_ ?_
            · simp only [List.mem_cons, List.not_mem_nil, or_false, forall_eq_or_imp, forall_eq]
              simp [holds_idxP, holds_cellsP, Base.ev, SX.ev, evs, Value.oneCell', lenPV_row, binPV]
            · intro qs a1 w1 hq h1
              refine ⟨fun h => (by cases h), fun _ => .inr (.inl ⟨by rw [show blockId (nth flN 8) = 0 by kernel_rfl]; rfl, ?_⟩)⟩
              simp [evs, SX.ev] at hq
              subst hq
              rw [← List.append_nil (flN.drop 9)]
              refine seg_ok names_ok mixed_ok orcN_ok npost h1 ?_ (fun qs a1 w1 hq h1 => ⟨fun h => (by cases h), fun _ => .inl ⟨_, hqs, .inr rfl, shNR, _, [SX.var 0], h1, by kernel_rfl, by simp [evs, SX.ev] at hq; subst hq; rfl⟩⟩)
              simp only [List.mem_cons, List.not_mem_nil, or_false, forall_eq_or_imp, forall_eq]
              simp [holds_idxP, holds_cellsP, Base.ev, SX.ev, evs, Value.oneCell', lenPV_row]
        · rw [if_neg d3] at hqs
          have heq : (b.toList == (headB x).toList) = false := by
            rw [beq_eq_false_iff_ne]
            exact fun e => d3 (rdk.toList_inj e)
          clear d3
          generalize headB x = hx' at *
          rw [← List.append_nil flN]
          refine seg_ok names_ok mixed_ok orcN_ok n3 hsh ?_ (fun qs a1 w1 hq hx => ⟨fun h => (by cases h), fun _ => .inr ⟨2, _, _, _, hqs, rfl, rfl, hx⟩⟩)
          simp only [List.mem_cons, List.not_mem_nil, or_false, forall_eq_or_imp, forall_eq]
          simp [holds_idxP, holds_cellsP, Base.ev, SX.ev, evs, Value.oneCell', hF, binPV, f1, f2, f3, f4, t1, t2, t3, t4, heq]
    · rw [if_neg d1] at hqs
      rw [if_neg (by omega)] at f4
      rw [← List.append_nil flN]
      refine seg_ok names_ok mixed_ok orcN_ok n1 hsh ?_ (fun qs a1 w1 hq hx => ⟨fun h => (by cases h), fun _ => .inr ⟨0, _, _, _, hqs, rfl, rfl, hx⟩⟩)
      simp only [List.mem_cons, List.not_mem_nil, or_false, forall_eq_or_imp, forall_eq]
      simp [holds_idxP, holds_cellsP, Base.ev, SX.ev, evs, Value.oneCell', hF, f1, f2, f4, t1, t2, t4]
end Go.Proofs.Ytegfdigljpnhcaa.jcm
