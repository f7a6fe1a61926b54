/- What is written into files, told: file.Put, and what the laws of writes reckon with. -/
import Derived.Test.YtfcdbknmajfkaaaPck
import Derived.Test.YtfcdbknmajfkaaaFrame
namespace Go.Proofs.Ytfcdbknmajfkaaa.fileFronts
open Go Go.RowKit eng SX Fact fil pck
set_option linter.unusedVariables false
set_option linter.unusedSimpArgs false
set_option maxRecDepth 1000000

def EPut (k : Nat) : FnE := { k := k, ins := [none, some 2], leaks := [false, false, false], outs := [none], kinds := [.num] }
def EBg (k : Nat) : FnE := { k := k, ins := [], leaks := [], outs := [none], kinds := [.truth] }
def tabF (f : FuncId) : Option FnE := cond (Nat.beq f 38) (some (EAll 1)) (cond (Nat.beq f 36) (some (EPut 2)) (cond (Nat.beq f 30) (some (EBg 3)) none))
def tabQ (f : FuncId) : Option PtrE := cond (Nat.beq f 32) (some (EWs 22)) none
def orcF : Orc := orcOr (orcFn tabF) (orcP tabQ)
def tabA (f : FuncId) : Option FnE := cond (Nat.beq f 38) (some (EAll 1)) none
theorem rPut : runTo Try.prog (orcFn tabA) 10000 36 (EPut 2) [.num, .num, .num] [] = some ([.ok (.var 0), .ok (.var 1), .ok (.var 2), .fn 38 (EAll 1) [.var 0, .lit 1 [.var 1, .var 2]], .ok (.fn 1 [.var 0, .lit 1 [.var 1, .var 2]] 0)], [.fn 1 [.var 0, .lit 1 [.var 1, .var 2]] 0]) := by kernel_rfl

/-! What is told. -/
theorem ranB : isTrue ((theEng Try.prog fil.noOrc 100000).call 30 [] ⟨.nil, 0, []⟩) = true := by kernel_rfl
def RBg (ps qs : List PV) : Prop := ps = [] ∧ qs = [pB true]
theorem fBg : ∀ ps q1 q2, RBg ps q1 → RBg ps q2 → q1 = q2 := by
  rintro ps q1 q2 ⟨_, rfl⟩ ⟨_, rfl⟩; rfl
theorem plain_reads {w : World} {x : Value} (h : x.oneCell' = true) : Reads w (.v x) x := by simp only [Reads]; exact ⟨trivial, h⟩
theorem toldBg (k : Nat) : ToldF 30 (EBg k) (spec RBg) := by
  intro w FP us ps qs hs hul hpl hFP hrd
  obtain ⟨rfl, rfl⟩ := of_spec hs
  obtain rfl : us = [] := List.eq_nil_of_length_eq_zero (by simpa using hul)
  refine (calls_true names_ok mixed_ok fil.noOrc_ok (args := []) ranB w).mono ?_
  rintro e w' ⟨rfl, hex⟩
  refine ⟨[.bool true], fun _ => none, rfl, rfl, owns_none rfl, fun j q u hq hu w2 _ => ?_, rfl, hex⟩
  match j, hq, hu with
  | 0, hq, hu => simp at hq hu; subst hq; subst hu; exact plain_reads rfl
  | j + 1, hq, hu => simp at hq
def bs (l : List UInt8) : ByteArray := ⟨l.toArray⟩
def RPut (ps qs : List PV) : Prop := ∃ (b : ByteArray) (o : Int) (s : ByteArray), b.size ≤ 1000 ∧ -9223372036854775808 ≤ o ∧ o ≤ 9223372036854775807 ∧ s.size ≤ 1000000 ∧ ps = [pS b, pI o, pS s] ∧ qs = [pS (bs (putW b.data.toList (o, s)))]
theorem fPut : ∀ ps q1 q2, RPut ps q1 → RPut ps q2 → q1 = q2 := by
  rintro ps q1 q2 ⟨b, o, s, _, _, _, _, rfl, rfl⟩ ⟨b', o', s', _, _, _, _, h, rfl⟩
  simp only [List.cons.injEq, PV.v.injEq, Value.string.injEq, Value.int.injEq, true_and, and_true] at h
  obtain ⟨rfl, rfl, rfl⟩ := h
  rfl
noncomputable def F : Fns := fun k => match k with | 1 => spec RAll | 2 => spec RPut | 3 => spec RBg | 22 => spec RWs | _ => fun _ => none
@[simp] theorem holds_fn (B : Base) (f : FuncId) (E : FnE) (es : List SX) : (Fact.fn f E es).holds B ↔ ToldF f E (B.F E.k) ∧ ∃ ps qs, evs B.s B.F es = some ps ∧ B.F E.k ps = some qs := Iff.rfl
@[simp] theorem kAll (k : Nat) : (EAll k).k = k := rfl
@[simp] theorem kPut (k : Nat) : (EPut k).k = k := rfl
@[simp] theorem kBg (k : Nat) : (EBg k).k = k := rfl
@[simp] theorem kWs (k : Nat) : (EWs k).k = k := rfl
theorem F1 {b : ByteArray} {ws : List (Int × ByteArray)} (h1 : b.size ≤ 1000) (h2 : ws.length ≤ 1000) (h3 : ∀ w ∈ ws, -9223372036854775808 ≤ w.1 ∧ w.1 ≤ 9223372036854775807 ∧ w.2.size ≤ 1000000) : F 1 [pS b, pRow encW ws] = some [pS (bs (allW b.data.toList ws))] := spec_of fAll ⟨b, ws, h1, h2, h3, rfl, rfl⟩
theorem t1 : ToldF 38 (EAll 1) (F 1) := toldAll 1
theorem t3 : ToldF 30 (EBg 3) (F 3) := toldBg 3
theorem F3 : F 3 [] = some [pB true] := spec_of fBg ⟨rfl, rfl⟩
theorem t22 : ToldP 32 (EWs 22) (F 22) := toldWs 22
theorem F22 {most n : Nat} {l : List Nat} (h : most ≤ 100) (ok : OkP l n) : F 22 [pI (most : Int), pRow encU l, pI (n : Int)] = some [pRow encW (writes l n most).1, pRow encU l, pI ((writes l n most).2 : Int)] := spec_of fWs ⟨most, n, l, h, ok, rfl, rfl⟩
theorem toldPut (k : Nat) : ToldF 36 (EPut k) (spec RPut) := by
  refine told_of mixed_ok names_ok F [.num, .num, .num] ?_
  intro ps qs h _
  obtain ⟨b, o, s, h1, h2, h3, h4, rfl, rfl⟩ := of_spec h
  have e1 : F 1 [pS b, .row 1 [pI o, pS s]] = some [pS (bs (putW b.data.toList (o, s)))] := by
    rw [row1]
    exact F1 (ws := [(o, s)]) h1 (by simp) (fun w hw => by simp at hw; subst hw; exact ⟨h2, h3, h4⟩)
  refine ⟨_, _, _, _, _, _, orcFn_ok tabA, rPut, fun w FP => ?_, ?_⟩
  · simp only [List.mem_cons, List.not_mem_nil, or_false, forall_eq_or_imp, forall_eq]
    simp [Base.ev, SX.ev, evs, e1, t1, Value.oneCell']
  · simp [evs, SX.ev, e1]
theorem t2 : ToldF 36 (EPut 2) (F 2) := toldPut 2
theorem F2 {b : ByteArray} {o : Int} {s : ByteArray} (h1 : b.size ≤ 1000) (h2 : -9223372036854775808 ≤ o) (h3 : o ≤ 9223372036854775807) (h4 : s.size ≤ 1000000) : F 2 [pS b, pI o, pS s] = some [pS (bs (putW b.data.toList (o, s)))] := spec_of fPut ⟨b, o, s, h1, h2, h3, h4, rfl, rfl⟩

/-! Writes behind one another. -/
theorem bs_list (l : List UInt8) : (bs l).data.toList = l := by simp [bs]
theorem bs_size (l : List UInt8) : (bs l).size = l.length := by simp [bs, ByteArray.size]
theorem all_app (l : List UInt8) (a b : List (Int × ByteArray)) : allW (allW l a) b = allW l (a ++ b) := by simp [allW]
theorem put_twice (l : List UInt8) (w : Int × ByteArray) : putW (putW l w) w = putW l w := by
  unfold putW
  cases h : mayW w with
  | false => rfl
  | true =>
    simp only [cond_true]
    have hx : w.2.data.toList.length = w.2.size := by simp
    generalize w.2.data.toList = x at *
    generalize w.1.toNat = o
    rw [← hx]
    have hm : o + x.length ≤ (grown l (o + x.length)).length := by simp [grown]; omega
    generalize grown l (o + x.length) = m at *
    have hl : (over m x o).length = m.length := by simp [over]; omega
    have hg : grown (over m x o) (o + x.length) = over m x o := by
      have : o + x.length - (over m x o).length = 0 := by omega
      simp [grown, this]
    rw [hg]
    have e1 : (over m x o).take o = m.take o := by
      simp only [over, List.append_assoc]
      rw [List.take_left' (by simp; omega)]
    have e2 : (over m x o).drop (o + x.length) = m.drop (o + x.length) := by
      simp only [over]
      rw [List.drop_left' (by simp; omega)]
    unfold over at e1 e2 ⊢
    rw [e1, e2]
theorem tbl_size : ∀ j, (tbl j).size ≤ 14
  | 0 => by decide
  | 1 => by decide
  | 2 => by decide
  | 3 => by decide
  | 4 => by decide
  | 5 => by decide
  | _ + 6 => by show (⟨⟨[UInt8.ofNat 120]⟩⟩ : ByteArray).size ≤ 14; decide
theorem wseq_ok (l : List Nat) : ∀ c n, ∀ w ∈ (wseq l c n).1, 0 ≤ w.1 ∧ w.1 < 10 ∧ w.2.size ≤ 14
  | 0, n, w, h => by simp [wseq] at h
  | c + 1, n, w, h => by
    simp only [wseq, List.mem_cons] at h
    rcases h with rfl | h
    · have := numV_lt (l := l) (n := n) (m := 10) (by omega)
      simp only [wr1]
      exact ⟨by omega, by omega, tbl_size _⟩
    · exact wseq_ok l c _ w h
theorem all_split (ws : List (Int × ByteArray)) (k : Nat) : encW.all ws = encW.all (ws.take k) ++ encW.all (ws.drop k) := by
  rw [← Enc.all_append, List.take_append_drop]
theorem take_row (ws : List (Int × ByteArray)) (k : Nat) (h : k ≤ ws.length) : PV.row k ((((encW.all ws).map PV.v).drop 0).take (k * 2)) = pRow encW (ws.take k) := by
  have hl : ((encW.all (ws.take k)).map PV.v).length = k * 2 := by
    rw [List.length_map, Enc.all_length, List.length_take, Nat.min_eq_left h]
    rfl
  rw [List.drop_zero, all_split ws k, List.map_append, ← hl, List.take_left' rfl]
  simp only [pRow, List.length_take, Nat.min_eq_left h]
theorem drop_row (ws : List (Int × ByteArray)) (k : Nat) (h : k ≤ ws.length) : PV.row (ws.length - k) ((((encW.all ws).map PV.v).drop (k * 2)).take ((ws.length - k) * 2)) = pRow encW (ws.drop k) := by
  have hl : ((encW.all (ws.take k)).map PV.v).length = k * 2 := by
    rw [List.length_map, Enc.all_length, List.length_take, Nat.min_eq_left h]
    rfl
  have hl2 : ((encW.all (ws.drop k)).map PV.v).length = (ws.length - k) * 2 := by
    rw [List.length_map, Enc.all_length, List.length_drop]
    rfl
  rw [all_split ws k, List.map_append, ← hl, List.drop_left' rfl, List.take_of_length_le (by rw [hl2]; exact Nat.le_refl _)]
  simp only [pRow, List.length_drop]
theorem sub_take (ws : List (Int × ByteArray)) (k : Nat) (h : k ≤ ws.length) : subPV (pRow encW ws) (pI 0) (pI (k : Int)) 2 = some (pRow encW (ws.take k)) := by
  have h1 : (0 : Int) ≤ (k : Int) := by omega
  have h2 : (k : Int) ≤ (ws.length : Int) := by omega
  rw [← take_row ws k h]
  simp [subPV, pRow, h1, h2]
theorem sub_drop (ws : List (Int × ByteArray)) (k : Nat) (h : k ≤ ws.length) : subPV (pRow encW ws) (pI (k : Int)) (pI (ws.length : Int)) 2 = some (pRow encW (ws.drop k)) := by
  have h1 : (0 : Int) ≤ (k : Int) := by omega
  have h2 : (k : Int) ≤ (ws.length : Int) := by omega
  rw [← drop_row ws k h]
  simp [subPV, pRow, h1, h2]

@[simp] theorem ex_cast0 (p : Nat → Prop) : (∃ a : Nat, (0 : Int) = (a : Int) ∧ p a) ↔ p 0 := by
  constructor
  · rintro ⟨a, h, hp⟩
    have : a = 0 := by omega
    rw [this] at hp
    exact hp
  · exact fun h => ⟨0, rfl, h⟩
theorem orcF_ok : OrcOk Try.prog orcF := orcOr_ok (orcFn_ok tabF) (orcP_ok tabQ)
theorem cellW2 (ws : List (Int × ByteArray)) (i : Nat) (h : i < ws.length) : cellPV (pRow encW ws) (pI (i : Int)) 2 0 = some (pI ws[i].1) ∧ cellPV (pRow encW ws) (pI (i : Int)) 2 1 = some (pS ws[i].2) := by
  constructor
  · rw [cellW ws i h 0 (by omega)]; rfl
  · rw [cellW ws i h 1 (by omega)]; rfl
@[simp] theorem holds_idx (B : Base) (e i : SX) (sz q : Nat) : (Fact.idx e i sz q).holds B ↔ ∃ n cs k z, B.ev e = some (.row n cs) ∧ B.ev i = some (.v (.int k z)) ∧ 0 ≤ z ∧ z < (n : Int) ∧ z.toNat * sz + q ≤ cs.length := Iff.rfl
set_option maxHeartbeats 4000000 in
theorem encU_all : ∀ zs : List Nat, encU.all zs = u8s zs
  | [] => rfl
  | z :: zs => by
    rw [Enc.all_cons, encU_all zs]
    rfl
theorem rowU {w : World} {v : Value} {len : Nat} {Z : Nat → Int} (h : IsRow .u8 w v len Z) : ∃ l : List Nat, (∀ z ∈ l, z < 256) ∧ l.length ≤ 9223372036854775807 ∧ Reads w (pRow encU l) v := by
  obtain ⟨zs, hzl, hz, hr⟩ := row_u8 h
  have hall := encU_all zs
  obtain ⟨a, cap, rfl, h1, h2, h3⟩ := hr
  rw [u8s_length] at h1 h3
  have hm := maxLen_le h2
  refine ⟨zs, hz, by omega, (reads_row encU).2 ⟨a, cap, by rw [u8s_length], h1, h2, fun h0 => ?_⟩⟩
  obtain ⟨b, off, rfl, h4⟩ := h3 h0
  have hlt : 0 < (u8s zs).length := by rw [u8s_length]; exact h0
  refine ⟨b, off, rfl, World.block_lt_of_cell? w ⟨b, off + 0, none⟩ (h4 0 _ (List.getElem?_eq_getElem hlt)), fun i u hu => ?_⟩
  rw [hall] at hu
  exact h4 i u hu
end Go.Proofs.Ytfcdbknmajfkaaa.fileFronts
