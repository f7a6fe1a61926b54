/- What lasts, turned (the law's): told. -/
import Derived.Test.YtnelcjofgpplgaaSlc
namespace Go.Proofs.Ytnelcjofgpplgaa.sta
open Go Go.RowKit eng SX Fact fil fileFronts dirs pck may
open fileFronts
open pck hiding F F20 F21
open dirs hiding shR shRl shRR flR lpR cutR f0 f1 f2 f3 m0 m1 m2 x2 x3 n1
open may hiding m1 m2 m3 m4 r1 r2 r3 r4 r5
set_option linter.unusedVariables false
set_option linter.unusedSimpArgs false
set_option maxRecDepth 1000000

def ETurn (k : Nat) : FnE := { k := k, ins := [some 3, none, none, none], leaks := [], outs := [some 3], kinds := [.row, .row, .num] }
@[simp] def zStu1 : SX := .bin .rem (.var 3) (.con (.int .u8 10))
@[simp] def zStu2 : SX := .bin .rem (rop ROp.max2 [.var 4, .con (.int .i64 0)]) (.len (rop ROp.cat [.lit 0 [], .var 0]))
@[simp] def zStu3 : SX := rop ROp.cat [.lit 0 [], .var 0]
@[simp] def zStu4 : SX := rop ROp.cat [.lit 0 [], .var 1]
@[simp] def zStu5 : SX := .bin .add (.cell zStu3 zStu2 3 2) (.con (.string { data := { toList := [UInt8.ofNat 97, UInt8.ofNat 110, UInt8.ofNat 111, UInt8.ofNat 116, UInt8.ofNat 104, UInt8.ofNat 101, UInt8.ofNat 114, UInt8.ofNat 32, UInt8.ofNat 98, UInt8.ofNat 111, UInt8.ofNat 100, UInt8.ofNat 121, UInt8.ofNat 32, UInt8.ofNat 111, UInt8.ofNat 102, UInt8.ofNat 32, UInt8.ofNat 116, UInt8.ofNat 104, UInt8.ofNat 105, UInt8.ofNat 115] } }))
@[simp] def zStu6 : Fact := same (.len (.lit 0 [])) (.len (.lit 0 []))
@[simp] def zStu7 : SX := .con (.int .i64 0)
@[simp] def zStu8 : SX := .bin .eql zStu1 (.con (.int .u8 0))
@[simp] def zStu9 : SX := .bin .eql zStu1 (.con (.int .u8 1))
@[simp] def zStu10 : SX := .bin .eql zStu1 (.con (.int .u8 2))
@[simp] def zStu11 : SX := .bin .eql zStu1 (.con (.int .u8 3))
@[simp] def zStu12 : SX := .bin .eql zStu1 (.con (.int .u8 4))
@[simp] def zStu13 : SX := .bin .rem zStu2 (.con (.int .i64 3))
@[simp] def zStu14 : SX := .bin .eql zStu1 (.con (.int .u8 5))
@[simp] def zStu15 : Fact := .ok (rop ROp.max2 [.var 4, zStu7])
@[simp] def zStu16 : SX := .bin .eql zStu1 (.con (.int .u8 6))
@[simp] def zStu17 : Fact := upto (.len zStu3) 4294967296
@[simp] def zStu18 : Fact := upto (.len zStu4) 4294967296
@[simp] def zStu19 : SX := rop ROp.min2 [zStu7, zStu7]
@[simp] def zStu20 : Fact := same (.len zStu4) (.len zStu4)
@[simp] def zStu21 : SX := rop ROp.cat [zStu4, .lit 1 [zStu7, zStu7, zStu7, zStu7]]
@[simp] def zStu22 : SX := .bin .eql zStu1 (.con (.int .u8 7))
@[simp] def zStu23 : Fact := .is zStu8 (.bool false)
@[simp] def zStu24 : Fact := same (.len zStu3) (.len zStu3)
@[simp] def zStu25 : Fact := .is zStu9 (.bool false)
@[simp] def zStu26 : SX := rop (ROp.upd 3 0) [zStu3, zStu2, .con (.string { data := { toList := [UInt8.ofNat 97, UInt8.ofNat 32, UInt8.ofNat 98] } })]
@[simp] def zStu27 : Fact := .is zStu10 (.bool false)
@[simp] def zStu28 : Fact := cells (.var 0) 3
@[simp] def zStu29 : Fact := cells (.var 1) 4
@[simp] def zStu30 : Fact := .is zStu11 (.bool false)
@[simp] def zStu31 : SX := .bin .eql zStu1 (.con (.int .u8 8))
@[simp] def zStu32 : SX := rop (ROp.upd 3 0) [zStu3, zStu2, .con (.string { data := { toList := [UInt8.ofNat 97] } })]
@[simp] def zStu33 : Fact := .is zStu12 (.bool false)
@[simp] def zStu34 : Fact := rng zStu2 (.len zStu3)
@[simp] def zStu35 : Fact := .ok (.var 2)
@[simp] def zStu36 : Fact := .ok (.var 3)
@[simp] def zStu37 : Fact := .ok (.var 4)
@[simp] def zStu38 : Fact := .ok (.var 5)
@[simp] def zStu39 : Fact := .is zStu14 (.bool false)
@[simp] def zStu40 : List SX := [zStu4, zStu13, .var 5]
theorem tu0 : runTo Try.prog fil.noOrc 10000 21 (ETurn 9) [.row, .row, .num, .num, .num, .num] [1] hApp = some ([zStu35, zStu36, zStu37, zStu38, zStu28, zStu6, zStu17, zStu29, zStu6, zStu18, zStu15, .ok zStu2, .ok zStu1, .ok zStu8, .is zStu8 (.bool true), zStu24, zStu20], [zStu3, zStu4, .var 5]) := by kernel_rfl
theorem tu1 : runTo Try.prog fil.noOrc 10000 21 (ETurn 9) [.row, .row, .num, .num, .num, .num] [0, 1] hApp = some ([zStu35, zStu36, zStu37, zStu38, zStu28, zStu6, zStu17, zStu29, zStu6, zStu18, zStu15, .ok zStu2, .ok zStu1, .ok zStu8, zStu23, .ok zStu9, .is zStu9 (.bool true), zStu34, .idx zStu3 zStu2 3 2, same (.len zStu3) (.len (rop (ROp.upd 3 1) [zStu3, zStu2, .var 5])), zStu20], [rop (ROp.upd 3 1) [zStu3, zStu2, .var 5], zStu4, .var 2]) := by kernel_rfl
theorem tu2 : runTo Try.prog fil.noOrc 10000 21 (ETurn 9) [.row, .row, .num, .num, .num, .num] [0, 0, 1] hApp = some ([zStu35, zStu36, zStu37, zStu38, zStu28, zStu6, zStu17, zStu29, zStu6, zStu18, zStu15, .ok zStu2, .ok zStu1, .ok zStu8, zStu23, .ok zStu9, zStu25, .ok zStu10, .is zStu10 (.bool true), zStu34, .idx zStu3 zStu2 3 1, same (.len zStu3) (.len zStu32), zStu20], [zStu32, zStu4, .var 2]) := by kernel_rfl
theorem tu3 : runTo Try.prog fil.noOrc 10000 21 (ETurn 9) [.row, .row, .num, .num, .num, .num] [0, 0, 0, 1] hApp = some ([zStu35, zStu36, zStu37, zStu38, zStu28, zStu6, zStu17, zStu29, zStu6, zStu18, zStu15, .ok zStu2, .ok zStu1, .ok zStu8, zStu23, .ok zStu9, zStu25, .ok zStu10, zStu27, .ok zStu11, .is zStu11 (.bool true), zStu34, .idx zStu3 zStu2 3 1, same (.len zStu3) (.len zStu26), zStu20], [zStu26, zStu4, .var 2]) := by kernel_rfl
theorem tu4 : runTo Try.prog fil.noOrc 10000 21 (ETurn 9) [.row, .row, .num, .num, .num, .num] [0, 0, 0, 0, 1] hApp = some ([zStu35, zStu36, zStu37, zStu38, zStu28, zStu6, zStu17, zStu29, zStu6, zStu18, zStu15, .ok zStu2, .ok zStu1, .ok zStu8, zStu23, .ok zStu9, zStu25, .ok zStu10, zStu27, .ok zStu11, zStu30, .ok zStu12, .is zStu12 (.bool true), zStu34, .idx zStu3 zStu2 3 3, .ok zStu5, zStu34, .idx zStu3 zStu2 3 3, same (.len zStu3) (.len (rop (ROp.upd 3 2) [zStu3, zStu2, zStu5])), zStu20], [rop (ROp.upd 3 2) [zStu3, zStu2, zStu5], zStu4, .var 2]) := by kernel_rfl
theorem tu5 : runTo Try.prog fil.noOrc 10000 21 (ETurn 9) [.row, .row, .num, .num, .num, .num] [0, 0, 0, 0, 0, 1] hApp = some ([zStu35, zStu36, zStu37, zStu38, zStu28, zStu6, zStu17, zStu29, zStu6, zStu18, zStu15, .ok zStu2, .ok zStu1, .ok zStu8, zStu23, .ok zStu9, zStu25, .ok zStu10, zStu27, .ok zStu11, zStu30, .ok zStu12, zStu33, .ok zStu14, .is zStu14 (.bool true), .ok zStu13, rng zStu13 (.len zStu4), .idx zStu4 zStu13 4 1, zStu24, same (.len zStu4) (.len (rop (ROp.upd 4 0) zStu40))], [zStu3, rop (ROp.upd 4 0) zStu40, .var 2]) := by kernel_rfl
theorem tu6 : runTo Try.prog fil.noOrc 10000 21 (ETurn 9) [.row, .row, .num, .num, .num, .num] [0, 0, 0, 0, 0, 0, 1] hApp = some ([zStu35, zStu36, zStu37, zStu38, zStu28, zStu6, zStu17, zStu29, zStu6, zStu18, zStu15, .ok zStu2, .ok zStu1, .ok zStu8, zStu23, .ok zStu9, zStu25, .ok zStu10, zStu27, .ok zStu11, zStu30, .ok zStu12, zStu33, .ok zStu14, zStu39, .ok zStu16, .is zStu16 (.bool true), .ok zStu13, rng zStu13 (.len zStu4), .idx zStu4 zStu13 4 2, zStu24, same (.len zStu4) (.len (rop (ROp.upd 4 1) zStu40))], [zStu3, rop (ROp.upd 4 1) zStu40, .var 2]) := by kernel_rfl
theorem tu7 : runTo Try.prog fil.noOrc 10000 21 (ETurn 9) [.row, .row, .num, .num, .num, .num] [0, 0, 0, 0, 0, 0, 0, 1] hApp = some ([zStu35, zStu36, zStu37, zStu38, zStu28, zStu6, zStu17, zStu29, zStu6, zStu18, zStu15, .ok zStu2, .ok zStu1, .ok zStu8, zStu23, .ok zStu9, zStu25, .ok zStu10, zStu27, .ok zStu11, zStu30, .ok zStu12, zStu33, .ok zStu14, zStu39, .ok zStu16, .is zStu16 (.bool false), .ok zStu22, .is zStu22 (.bool true), zStu24, le3 zStu19 zStu2 (.len zStu3), rng zStu19 (.len zStu3), Fact.sub zStu3 zStu19 (.bin .add zStu19 (.bin .sub zStu2 zStu19)) 3, upto zStu19 4294967296, upto (.bin .sub zStu2 zStu19) 4294967296, zStu20], [SX.sub zStu3 zStu19 (.bin .add zStu19 (.bin .sub zStu2 zStu19)) 3, zStu4, .var 2]) := by kernel_rfl
theorem tu8 : runTo Try.prog fil.noOrc 10000 21 (ETurn 9) [.row, .row, .num, .num, .num, .num] [0, 0, 0, 0, 0, 0, 0, 0, 1] hApp = some ([zStu35, zStu36, zStu37, zStu38, zStu28, zStu6, zStu17, zStu29, zStu6, zStu18, zStu15, .ok zStu2, .ok zStu1, .ok zStu8, zStu23, .ok zStu9, zStu25, .ok zStu10, zStu27, .ok zStu11, zStu30, .ok zStu12, zStu33, .ok zStu14, zStu39, .ok zStu16, .is zStu16 (.bool false), .ok zStu22, .is zStu22 (.bool false), .ok zStu31, .is zStu31 (.bool true), zStu20, upto (.len zStu21) 4294967296, zStu24, same (.len zStu21) (.len zStu21)], [zStu3, zStu21, .var 2]) := by kernel_rfl
theorem tu9 : runTo Try.prog fil.noOrc 10000 21 (ETurn 9) [.row, .row, .num, .num, .num, .num] [0, 0, 0, 0, 0, 0, 0, 0, 0] hApp = some ([zStu35, zStu36, zStu37, zStu38, zStu28, zStu6, zStu17, zStu29, zStu6, zStu18, zStu15, .ok zStu2, .ok zStu1, .ok zStu8, zStu23, .ok zStu9, zStu25, .ok zStu10, zStu27, .ok zStu11, zStu30, .ok zStu12, zStu33, .ok zStu14, zStu39, .ok zStu16, .is zStu16 (.bool false), .ok zStu22, .is zStu22 (.bool false), .ok zStu31, .is zStu31 (.bool false), zStu24, zStu20], [zStu3, zStu4, .var 2]) := by kernel_rfl

@[simp] theorem kTurn (k : Nat) : (ETurn k).k = k := rfl
def tailB : ByteArray := ⟨⟨[UInt8.ofNat 97, UInt8.ofNat 110, UInt8.ofNat 111, UInt8.ofNat 116, UInt8.ofNat 104, UInt8.ofNat 101, UInt8.ofNat 114, UInt8.ofNat 32, UInt8.ofNat 98, UInt8.ofNat 111, UInt8.ofNat 100, UInt8.ofNat 121, UInt8.ofNat 32, UInt8.ofNat 111, UInt8.ofNat 102, UInt8.ofNat 32, UInt8.ofNat 116, UInt8.ofNat 104, UInt8.ofNat 105, UInt8.ofNat 115]⟩⟩
def nmA : ByteArray := ⟨⟨[UInt8.ofNat 97]⟩⟩
def nmAB : ByteArray := ⟨⟨[UInt8.ofNat 97, UInt8.ofNat 32, UInt8.ofNat 98]⟩⟩
@[simp] theorem ex_six' : (∃ z : Nat, (6 : Int) = (z : Int) ∧ z ≤ 4294967296) ↔ True := ⟨fun _ => trivial, fun _ => ⟨6, rfl, by omega⟩⟩
@[simp] theorem ex_three' : (∃ z : Nat, (3 : Int) = (z : Int) ∧ z ≤ 4294967296) ↔ True := ⟨fun _ => trivial, fun _ => ⟨3, rfl, by omega⟩⟩
@[simp] theorem ex_four' : (∃ z : Nat, (4 : Int) = (z : Int) ∧ z ≤ 4294967296) ↔ True := ⟨fun _ => trivial, fun _ => ⟨4, rfl, by omega⟩⟩
@[simp] theorem ex_four : (∃ z : Nat, (4 : Int) = (z : Int)) ↔ True := ⟨fun _ => trivial, fun _ => ⟨4, rfl⟩⟩
def turnC (s : StM) (k : Nat) (to : Int) : Nat → StM
  | 0 => ⟨s.files, s.marks, to⟩
  | 1 => ⟨s.files.set k ((s.files.getD k f00).1, to, (s.files.getD k f00).2.2), s.marks, s.epoch⟩
  | 2 => ⟨s.files.set k (nmA, (s.files.getD k f00).2.1, (s.files.getD k f00).2.2), s.marks, s.epoch⟩
  | 3 => ⟨s.files.set k (nmAB, (s.files.getD k f00).2.1, (s.files.getD k f00).2.2), s.marks, s.epoch⟩
  | 4 => ⟨s.files.set k ((s.files.getD k f00).1, (s.files.getD k f00).2.1, (s.files.getD k f00).2.2 ++ tailB), s.marks, s.epoch⟩
  | 5 => ⟨s.files, s.marks.set (k % 3) (to, (s.marks.getD (k % 3) (0, 0, 0, 0)).2.1, (s.marks.getD (k % 3) (0, 0, 0, 0)).2.2.1, (s.marks.getD (k % 3) (0, 0, 0, 0)).2.2.2), s.epoch⟩
  | 6 => ⟨s.files, s.marks.set (k % 3) ((s.marks.getD (k % 3) (0, 0, 0, 0)).1, to, (s.marks.getD (k % 3) (0, 0, 0, 0)).2.2.1, (s.marks.getD (k % 3) (0, 0, 0, 0)).2.2.2), s.epoch⟩
  | 7 => ⟨s.files.take k, s.marks, s.epoch⟩
  | 8 => ⟨s.files, s.marks ++ [(0, 0, 0, 0)], s.epoch⟩
  | _ => s
def tk (f : Int) : Nat := (max f 0).toNat % 6
def turnedS (s : StM) (how : Nat) (f to : Int) : StM := turnC s (tk f) to (how % 10)
def RTurn (ps qs : List PV) : Prop := ∃ (s : StM) (how : Nat) (f to : Int), MayS s ∧ how < 256 ∧ -1 ≤ f ∧ f ≤ 7 ∧ ps = pSt s ++ [pU (how : Int), pI f, pI to] ∧ qs = pSt (turnedS s how f to)
theorem fTurn : ∀ ps q1 q2, RTurn ps q1 → RTurn ps q2 → q1 = q2 := by
  rintro ps q1 q2 ⟨s, how, f, to, _, _, _, _, rfl, rfl⟩ ⟨s', how', f', to', _, _, _, _, h, rfl⟩
  simp only [List.cons_append, List.nil_append, List.cons.injEq, PV.v.injEq, Value.int.injEq, true_and, and_true, Int.ofNat_inj] at h
  obtain ⟨h1, h2, h3, rfl, rfl, rfl⟩ := h
  rw [pSt_inj h1 h2 h3]
theorem MayS.pre1 {s : StM} (h : MayS s) (k : Nat) : (s.files.getD k f00).1.size ≤ 8 ∧ (s.files.getD k f00).2.2.size ≤ 24 := by
  by_cases hk : k < s.files.length
  · have hg : s.files.getD k f00 = s.files[k] := by simp [List.getD, hk]
    rw [hg]
    rcases h.fv k hk with h0 | ⟨h1, _, _, h4⟩
    · rw [isE0_eq h0]; simp only [f00, e0]; decide
    · have := (findN_some.1 h1).1
      simp only [dirs.okN, Bool.and_eq_true, decide_eq_true_eq] at this
      exact ⟨this.1.2, h4⟩
  · have hg : s.files.getD k f00 = f00 := by simp [List.getD, hk]
    rw [hg]; simp only [f00, e0]; decide
theorem sz_tail : tailB.size = 20 := by decide
theorem turned_pre {s : StM} (h : MayS s) (k : Nat) (to : Int) (c : Nat) : MayPre (turnC s k to c) := by
  have hp := h.pre
  obtain ⟨g1, g2⟩ := h.pre1 k
  have hset : ∀ x : FileM, x.1.size ≤ 1000 → x.2.2.size ≤ 1000 → MayPre ⟨s.files.set k x, s.marks, s.epoch⟩ := fun x h1 h2 => by
    refine ⟨by have := hp.fl; simpa using this, hp.ml, fun f hf => ?_⟩
    rcases List.mem_or_eq_of_mem_set hf with h | rfl
    · exact hp.fv f h
    · omega
  match c with
  | 0 => exact ⟨hp.fl, hp.ml, hp.fv⟩
  | 1 => exact hset _ (by simp only; omega) (by simp only; omega)
  | 2 => exact hset _ (by simp only [nmA]; decide) (by simp only; omega)
  | 3 => exact hset _ (by simp only [nmAB]; decide) (by simp only; omega)
  | 4 => exact hset _ (by simp only; omega) (by simp only [ByteArray.size_append, sz_tail]; omega)
  | 5 => exact ⟨hp.fl, by have := hp.ml; simpa [turnC] using this, hp.fv⟩
  | 6 => exact ⟨hp.fl, by have := hp.ml; simpa [turnC] using this, hp.fv⟩
  | 7 => exact ⟨by have := hp.fl; simp only [turnC, List.length_take]; omega, hp.ml, fun f hf => hp.fv f (List.mem_of_mem_take hf)⟩
  | 8 => exact ⟨hp.fl, by have := h.ml; simp [turnC, this], hp.fv⟩
  | _ + 9 => exact hp
theorem holds_subF (B : Base) (e lo hi : SX) (sz : Nat) : (Fact.sub e lo hi sz).holds B ↔ ∃ p, B.ev (.sub e lo hi sz) = some p := Iff.rfl
theorem binI_eql (k : IntKind) (a b : Int) : binPV .eql (.v (.int k a)) (.v (.int k b)) = some (.v (.bool (a == b))) := by simp [binPV]
theorem sub_takeE {α : Type} (E : Enc α) (xs : List α) (k : Nat) (h : k ≤ xs.length) : subPV (pRow E xs) (pI 0) (pI (k : Int)) E.sz = some (pRow E (xs.take k)) := by
  have h1 : (0 : Int) ≤ (k : Int) := by omega
  have h2 : (k : Int) ≤ (xs.length : Int) := by omega
  have hl : ((E.all (xs.take k)).map PV.v).length = k * E.sz := by
    rw [List.length_map, Enc.all_length, List.length_take, Nat.min_eq_left h]
  have ha : E.all xs = E.all (xs.take k) ++ E.all (xs.drop k) := by rw [← Enc.all_append, List.take_append_drop]
  simp only [subPV, pRow, h1, h2, decide_true, Bool.and_self, cond_true, Int.le_refl, Int.toNat_natCast, Int.toNat_zero, Nat.sub_zero, Nat.zero_mul, List.drop_zero, List.length_take, Nat.min_eq_left h]
  rw [ha, List.map_append, ← hl, List.take_left' rfl]
set_option maxHeartbeats 2000000 in
theorem toldTurn (k0 : Nat) : ToldF 21 (ETurn k0) (spec RTurn) := by
  refine told_of mixed_ok names_ok (fun _ _ => none) [.row, .row, .num, .num, .num, .num] ?_
  intro ps qs h _
  obtain ⟨⟨fs, ms, ep⟩, how, f, to, hm, hh, hf1, hf2, rfl, rfl⟩ := of_spec h
  have hfl : fs.length = 6 := hm.fl
  have hml : ms.length = 3 := hm.ml
  have cf := cellsP_row encF fs 3 rfl (by omega)
  have rcf := r_cat0 encF fs
  have cm := cellsP_row encM ms 4 rfl (by omega)
  have rcm := r_cat0 encM ms
  have hLf : lenPV (pRow encF fs) = some (pI 6) := by rw [lenPV_row, hfl]; rfl
  have hLm : lenPV (pRow encM ms) = some (pI 3) := by rw [lenPV_row, hml]; rfl
  have rx : ropPV .max2 [pI f, pI 0] = some (pI (max f 0)) := rfl
  have hk : tk f < 6 := Nat.mod_lt _ (by omega)
  have ht : (max f 0).tmod 6 = ((tk f : Nat) : Int) := by
    obtain ⟨n, hn⟩ : ∃ n : Nat, max f 0 = (n : Int) := ⟨(max f 0).toNat, by omega⟩
    simp only [tk, hn, Int.toNat_natCast]
    rfl
  have hb : binPV .rem (pI (max f 0)) (pI 6) = some (pI (tk f : Nat)) := by simp [binPV, ht]
  have hhm : how % 10 < 10 := Nat.mod_lt _ (by omega)
  have hc : binPV .rem (pU (how : Int)) (pU 10) = some (pU ((how % 10 : Nat) : Int)) := by simp [binPV]; rfl
  have hct : ((how : Int).tmod 10) = ((how % 10 : Nat) : Int) := rfl
  have hT : turnedS ⟨fs, ms, ep⟩ how f to = turnC ⟨fs, ms, ep⟩ (tk f) to (how % 10) := rfl
  rw [hT]
  obtain ⟨g1, g2⟩ := hm.pre1 (tk f)
  generalize tk f = k at *
  generalize max f 0 = mf at *
  generalize how % 10 = cc at *
  have hkf : k < fs.length := by omega
  have hg : fs.getD k f00 = fs[k] := by simp [List.getD, hkf]
  have hk3 : k % 3 < ms.length := by rw [hml]; exact Nat.mod_lt _ (by omega)
  have hg3 : ms.getD (k % 3) (0, 0, 0, 0) = ms[k % 3] := by simp [List.getD, hk3]
  have h3t : ((k : Int).tmod 3) = ((k % 3 : Nat) : Int) := rfl
  have hb3 : binPV .rem (pI (k : Int)) (pI 3) = some (pI ((k % 3 : Nat) : Int)) := by simp [binPV]; rfl
  obtain ⟨c0, c1, c2⟩ := cellF fs k hkf
  have ix : ∀ q, q ≤ 3 → IdxP (some (pRow encF fs)) (some (pI (k : Int))) 3 q := fun q hq => idxP_row encF fs k 3 q .i64 rfl hkf hq
  have i1 := ix 1 (by omega)
  have i2 := ix 2 (by omega)
  have i3 := ix 3 (by omega)
  have jx : ∀ q, q ≤ 4 → IdxP (some (pRow encM ms)) (some (pI ((k % 3 : Nat) : Int))) 4 q := fun q hq => idxP_row encM ms (k % 3) 4 q .i64 rfl hk3 hq
  have j1 := jx 1 (by omega)
  have j2 := jx 2 (by omega)
  have j4 := jx 4 (by omega)
  have hLs : ∀ x, lenPV (pRow encF (fs.set k x)) = some (pI 6) := fun x => by rw [lenPV_row, List.length_set, hfl]; rfl
  have hLt : ∀ x, lenPV (pRow encM (ms.set (k % 3) x)) = some (pI 3) := fun x => by rw [lenPV_row, List.length_set, hml]; rfl
  have hk6 : (k : Int) < 6 := by omega
  have hz3 : k % 3 < 3 := by omega
  have hk36 : ((k % 3 : Nat) : Int) < 3 := by omega
  have hcc : cc = 0 ∨ cc = 1 ∨ cc = 2 ∨ cc = 3 ∨ cc = 4 ∨ cc = 5 ∨ cc = 6 ∨ cc = 7 ∨ cc = 8 ∨ cc = 9 := by omega
  rcases hcc with rfl | rfl | rfl | rfl | rfl | rfl | rfl | rfl | rfl | rfl
  · refine ⟨_, _, _, _, _, _, fil.noOrc_ok, tu0, fun w FP => ?_, ?_⟩
    · simp only [List.mem_cons, List.not_mem_nil, or_false, forall_eq_or_imp, forall_eq]
      simp [-holds_idx, holds_idxP, holds_cellsP, Base.ev, SX.ev, evs, Value.oneCell', lenPV_r, binPV, cf, cm, rcf, rcm, hLf, hLm, rx, ht, hct, h3t, i1, i2, i3, hk6]
    · simp [evs, SX.ev, binPV, rcf, rcm, rx, hLf, hb, turnC]
  · simp only [turnC, hg]
    have u := r_updPart encF fs k .i64 (fs[k].1, to, fs[k].2.2) 1 [.int .i64 to] hkf rfl (show (1 + 1 : Nat) ≤ 3 by omega)
    have u : ropPV (.upd 3 1) [pRow encF fs, pI (k : Int), pI to] = some (pRow encF (fs.set k (fs[k].1, to, fs[k].2.2))) := u
    have hL := hLs (fs[k].1, to, fs[k].2.2)
    generalize fs.set k (fs[k].1, to, fs[k].2.2) = l2 at *
    refine ⟨_, _, _, _, _, _, fil.noOrc_ok, tu1, fun w FP => ?_, ?_⟩
    · simp only [List.mem_cons, List.not_mem_nil, or_false, forall_eq_or_imp, forall_eq]
      simp [-holds_idx, holds_idxP, holds_cellsP, Base.ev, SX.ev, evs, Value.oneCell', lenPV_r, binPV, cf, cm, rcf, rcm, hLf, hLm, rx, ht, hct, h3t, i1, i2, i3, hk6, u, hL]
    · simp [evs, SX.ev, rcf, rcm, rx, hLf, hb, u, binPV, ht]
  · simp only [turnC, hg]
    have u := r_updPart encF fs k .i64 (nmA, fs[k].2.1, fs[k].2.2) 0 [.string nmA] hkf rfl (show (0 + 1 : Nat) ≤ 3 by omega)
    have u : ropPV (.upd 3 0) [pRow encF fs, pI (k : Int), pS ⟨⟨[97]⟩⟩] = some (pRow encF (fs.set k (nmA, fs[k].2.1, fs[k].2.2))) := u
    have hL := hLs (nmA, fs[k].2.1, fs[k].2.2)
    generalize fs.set k (nmA, fs[k].2.1, fs[k].2.2) = l2 at *
    refine ⟨_, _, _, _, _, _, fil.noOrc_ok, tu2, fun w FP => ?_, ?_⟩
    · simp only [List.mem_cons, List.not_mem_nil, or_false, forall_eq_or_imp, forall_eq]
      simp [-holds_idx, holds_idxP, holds_cellsP, Base.ev, SX.ev, evs, Value.oneCell', lenPV_r, binPV, cf, cm, rcf, rcm, hLf, hLm, rx, ht, hct, h3t, i1, i2, i3, hk6, u, hL]
    · simp [evs, SX.ev, rcf, rcm, rx, hLf, hb, u, binPV, ht]
  · simp only [turnC, hg]
    have u := r_updPart encF fs k .i64 (nmAB, fs[k].2.1, fs[k].2.2) 0 [.string nmAB] hkf rfl (show (0 + 1 : Nat) ≤ 3 by omega)
    have u : ropPV (.upd 3 0) [pRow encF fs, pI (k : Int), pS ⟨⟨[97, 32, 98]⟩⟩] = some (pRow encF (fs.set k (nmAB, fs[k].2.1, fs[k].2.2))) := u
    have hL := hLs (nmAB, fs[k].2.1, fs[k].2.2)
    generalize fs.set k (nmAB, fs[k].2.1, fs[k].2.2) = l2 at *
    refine ⟨_, _, _, _, _, _, fil.noOrc_ok, tu3, fun w FP => ?_, ?_⟩
    · simp only [List.mem_cons, List.not_mem_nil, or_false, forall_eq_or_imp, forall_eq]
      simp [-holds_idx, holds_idxP, holds_cellsP, Base.ev, SX.ev, evs, Value.oneCell', lenPV_r, binPV, cf, cm, rcf, rcm, hLf, hLm, rx, ht, hct, h3t, i1, i2, i3, hk6, u, hL]
    · simp [evs, SX.ev, rcf, rcm, rx, hLf, hb, u, binPV, ht]
  · simp only [turnC, hg]
    rw [hg] at g2
    have hadd : binPV .add (pS fs[k].2.2) (pS ⟨⟨[97, 110, 111, 116, 104, 101, 114, 32, 98, 111, 100, 121, 32, 111, 102, 32, 116, 104, 105, 115]⟩⟩) = some (pS (fs[k].2.2 ++ tailB)) := by
      have hm2 : ¬ (((fs[k].2.2.size + tailB.size : Nat) : Int) > IntKind.i64.max) := by
        rw [sz_tail]
        have : IntKind.i64.max = 9223372036854775807 := rfl
        omega
      show cond (decide (((fs[k].2.2.size + tailB.size : Nat) : Int) > IntKind.i64.max)) none _ = _
      rw [decide_eq_false hm2]
      rfl
    have u := r_updPart encF fs k .i64 (fs[k].1, fs[k].2.1, fs[k].2.2 ++ tailB) 2 [.string (fs[k].2.2 ++ tailB)] hkf rfl (show (2 + 1 : Nat) ≤ 3 by omega)
    have u : ropPV (.upd 3 2) [pRow encF fs, pI (k : Int), pS (fs[k].2.2 ++ tailB)] = some (pRow encF (fs.set k (fs[k].1, fs[k].2.1, fs[k].2.2 ++ tailB))) := u
    have hL := hLs (fs[k].1, fs[k].2.1, fs[k].2.2 ++ tailB)
    generalize fs.set k (fs[k].1, fs[k].2.1, fs[k].2.2 ++ tailB) = l2 at *
    generalize fs[k].2.2 ++ tailB = bb at *
    generalize fs[k] = fx at *
    refine ⟨_, _, _, _, _, _, fil.noOrc_ok, tu4, fun w FP => ?_, ?_⟩
    · simp only [List.mem_cons, List.not_mem_nil, or_false, forall_eq_or_imp, forall_eq]
      simp [-holds_idx, holds_idxP, holds_cellsP, Base.ev, SX.ev, evs, Value.oneCell', lenPV_r, binI_eql, cf, cm, rcf, rcm, hLf, hLm, rx, hb, hc, i1, i2, i3, hk6, hadd, u, hL, c0, c1, c2]
    · simp [evs, SX.ev, rcf, rcm, rx, hLf, hb, u, c2, hadd, ht]
  · simp only [turnC, hg3]
    have u := r_updPart encM ms (k % 3) .i64 (to, ms[k % 3].2.1, ms[k % 3].2.2.1, ms[k % 3].2.2.2) 0 [.int .i64 to] hk3 rfl (show (0 + 1 : Nat) ≤ 4 by omega)
    have u : ropPV (.upd 4 0) [pRow encM ms, pI ((k % 3 : Nat) : Int), pI to] = some (pRow encM (ms.set (k % 3) (to, ms[k % 3].2.1, ms[k % 3].2.2.1, ms[k % 3].2.2.2))) := u
    have hL := hLt (to, ms[k % 3].2.1, ms[k % 3].2.2.1, ms[k % 3].2.2.2)
    generalize ms.set (k % 3) (to, ms[k % 3].2.1, ms[k % 3].2.2.1, ms[k % 3].2.2.2) = l2 at *
    generalize hkk : k % 3 = k3 at *
    refine ⟨_, _, _, _, _, _, fil.noOrc_ok, tu5, fun w FP => ?_, ?_⟩
    · simp only [List.mem_cons, List.not_mem_nil, or_false, forall_eq_or_imp, forall_eq]
      simp [-holds_idx, holds_idxP, holds_cellsP, Base.ev, SX.ev, evs, Value.oneCell', lenPV_r, binPV, cf, cm, rcf, rcm, hLf, hLm, rx, ht, hct, h3t, i1, i2, i3, hk6, hb3, u, hL, j1, j2, j4, hk36]
    · simp [evs, SX.ev, rcf, rcm, rx, hLf, hb, hb3, u, binPV, ht, h3t]
  · simp only [turnC, hg3]
    have u := r_updPart encM ms (k % 3) .i64 (ms[k % 3].1, to, ms[k % 3].2.2.1, ms[k % 3].2.2.2) 1 [.int .i64 to] hk3 rfl (show (1 + 1 : Nat) ≤ 4 by omega)
    have u : ropPV (.upd 4 1) [pRow encM ms, pI ((k % 3 : Nat) : Int), pI to] = some (pRow encM (ms.set (k % 3) (ms[k % 3].1, to, ms[k % 3].2.2.1, ms[k % 3].2.2.2))) := u
    have hL := hLt (ms[k % 3].1, to, ms[k % 3].2.2.1, ms[k % 3].2.2.2)
    generalize ms.set (k % 3) (ms[k % 3].1, to, ms[k % 3].2.2.1, ms[k % 3].2.2.2) = l2 at *
    generalize hkk : k % 3 = k3 at *
    refine ⟨_, _, _, _, _, _, fil.noOrc_ok, tu6, fun w FP => ?_, ?_⟩
    · simp only [List.mem_cons, List.not_mem_nil, or_false, forall_eq_or_imp, forall_eq]
      simp [-holds_idx, holds_idxP, holds_cellsP, Base.ev, SX.ev, evs, Value.oneCell', lenPV_r, binPV, cf, cm, rcf, rcm, hLf, hLm, rx, ht, hct, h3t, i1, i2, i3, hk6, hb3, u, hL, j1, j2, j4, hk36]
    · simp [evs, SX.ev, rcf, rcm, rx, hLf, hb, hb3, u, binPV, ht, h3t]
  · simp only [turnC]
    have hs : subPV (pRow encF fs) (pI 0) (pI (k : Int)) 3 = some (pRow encF (fs.take k)) := sub_takeE encF fs k (by omega)
    have wk : IntKind.i64.wrap (k : Int) = (k : Int) := wrapI _ (by omega) (by omega)
    have m00 : ropPV .min2 [pI 0, pI 0] = some (pI 0) := rfl
    have mkk : ropPV .min2 [pI (k : Int), pI (k : Int)] = some (pI (k : Int)) := by simp [ropPV]
    refine ⟨_, _, _, _, _, _, fil.noOrc_ok, tu7, fun w FP => ?_, ?_⟩
    · simp only [List.mem_cons, List.not_mem_nil, or_false, forall_eq_or_imp, forall_eq]
      simp [-holds_idx, holds_idxP, holds_cellsP, Base.ev, SX.ev, evs, Value.oneCell', lenPV_r, binPV, cf, cm, rcf, rcm, hLf, hLm, rx, ht, hct, h3t, i1, i2, i3, hk6, holds_subF, hs, wk, m00, mkk]
      exact ⟨⟨6, rfl, by omega⟩, by omega⟩
    · simp [evs, SX.ev, rcf, rcm, rx, hLf, hb, hs, wk, binPV, m00, mkk, ht]
  · simp only [turnC]
    have rc : ropPV .cat [pRow encM ms, .row 1 [pI 0, pI 0, pI 0, pI 0]] = some (pRow encM (ms ++ [(0, 0, 0, 0)])) := by simp [ropPV, pRow, Enc.all, encM]
    have hL : lenPV (pRow encM (ms ++ [(0, 0, 0, 0)])) = some (pI 4) := by rw [lenPV_row, List.length_append, hml]; rfl
    refine ⟨_, _, _, _, _, _, fil.noOrc_ok, tu8, fun w FP => ?_, ?_⟩
    · simp only [List.mem_cons, List.not_mem_nil, or_false, forall_eq_or_imp, forall_eq]
      simp [-holds_idx, holds_idxP, holds_cellsP, Base.ev, SX.ev, evs, Value.oneCell', lenPV_r, binPV, cf, cm, rcf, rcm, hLf, hLm, rx, ht, hct, h3t, i1, i2, i3, hk6, rc, hL]
    · simp [evs, SX.ev, rcf, rcm, rx, hLf, hb, rc]
  · simp only [turnC]
    refine ⟨_, _, _, _, _, _, fil.noOrc_ok, tu9, fun w FP => ?_, ?_⟩
    · simp only [List.mem_cons, List.not_mem_nil, or_false, forall_eq_or_imp, forall_eq]
      simp [-holds_idx, holds_idxP, holds_cellsP, Base.ev, SX.ev, evs, Value.oneCell', lenPV_r, binPV, cf, cm, rcf, rcm, hLf, hLm, rx, ht, hct, h3t, i1, i2, i3, hk6]
    · simp [evs, SX.ev, rcf, rcm, rx, hLf, hb]
end Go.Proofs.Ytnelcjofgpplgaa.sta
