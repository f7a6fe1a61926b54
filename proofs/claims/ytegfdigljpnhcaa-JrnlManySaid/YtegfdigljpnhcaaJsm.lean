/- A disk in memory of its own: told. -/
import Derived.Test.YtegfdigljpnhcaaRdkA
import Derived.Test.YtegfdigljpnhcaaJmu
namespace Go.Proofs.Ytegfdigljpnhcaa.jsm
open Go Go.RowKit eng SX Fact dsk
open jmt hiding Pt Calm
open fil
open rdk hiding dbox
open symD hiding pRow_inj
set_option linter.unusedVariables false
set_option linter.unusedSimpArgs false
set_option maxRecDepth 1000000

def ESm (k : Nat) : FnE := { k := k, ins := [some 4], leaks := [], outs := [some 4], kinds := [.row, .row, .num, .num] }
theorem sm : runTo Try.prog fil.noOrc 10000 50 (ESm 9) [.row, .row, .num, .num] [0, 0, 1, 1, 0, 0, 0, 0] hApp = some ([.ok (.var 2), .ok (.var 3), .ok (.len (.var 0)), .ok (.bin .add (.con (.int .i64 0)) (.len (.var 0))), .ok (.bin .lss (.bin .add (.con (.int .i64 0)) (.len (.var 0))) (.con (.int .i64 0))), .is (.bin .lss (.bin .add (.con (.int .i64 0)) (.len (.var 0))) (.con (.int .i64 0))) (.bool false), .ok (.bin .lss (.bin .add (.con (.int .i64 0)) (.len (.var 0))) (.con (.int .i64 0))), .is (.bin .lss (.bin .add (.con (.int .i64 0)) (.len (.var 0))) (.con (.int .i64 0))) (.bool false), .ok (.bin .sub (.bin .add (.con (.int .i64 0)) (.len (.var 0))) (.con (.int .i64 0))), .ok (.bin .gtr (.bin .sub (.bin .add (.con (.int .i64 0)) (.len (.var 0))) (.con (.int .i64 0))) (.con (.int .i64 0))), .is (.bin .gtr (.bin .sub (.bin .add (.con (.int .i64 0)) (.len (.var 0))) (.con (.int .i64 0))) (.con (.int .i64 0))) (.bool true), upto (.bin .sub (.bin .add (.con (.int .i64 0)) (.len (.var 0))) (.con (.int .i64 0))) 4294967296, rng (.con (.int .i64 0)) (.len (rop (ROp.rep [.string { data := { toList := [] } }]) [.bin .sub (.bin .add (.con (.int .i64 0)) (.len (.var 0))) (.con (.int .i64 0))])), upto (.len (rop (ROp.rep [.string { data := { toList := [] } }]) [.bin .sub (.bin .add (.con (.int .i64 0)) (.len (.var 0))) (.con (.int .i64 0))])) 4294967296, cells (.var 0) 1, same (.con (.int .i64 0)) (.len (.lit 0 [])), upto (.len (rop ROp.cat [.lit 0 [], .var 0])) 4294967296, .ok (.len (.var 1)), .ok (.bin .add (.con (.int .i64 0)) (.len (.var 1))), .ok (.bin .lss (.bin .add (.con (.int .i64 0)) (.len (.var 1))) (.con (.int .i64 0))), .is (.bin .lss (.bin .add (.con (.int .i64 0)) (.len (.var 1))) (.con (.int .i64 0))) (.bool false), .ok (.bin .lss (.bin .add (.con (.int .i64 0)) (.len (.var 1))) (.con (.int .i64 0))), .is (.bin .lss (.bin .add (.con (.int .i64 0)) (.len (.var 1))) (.con (.int .i64 0))) (.bool false), .ok (.bin .sub (.bin .add (.con (.int .i64 0)) (.len (.var 1))) (.con (.int .i64 0))), .ok (.bin .gtr (.bin .sub (.bin .add (.con (.int .i64 0)) (.len (.var 1))) (.con (.int .i64 0))) (.con (.int .i64 0))), .is (.bin .gtr (.bin .sub (.bin .add (.con (.int .i64 0)) (.len (.var 1))) (.con (.int .i64 0))) (.con (.int .i64 0))) (.bool false), cells (.var 1) 2, same (.len (.var 1)) (.con (.int .i64 0)), same (.len (rop ROp.cat [.lit 0 [], .var 0])) (.len (rop ROp.cat [.lit 0 [], .var 0]))], [rop ROp.cat [.lit 0 [], .var 0], .lit 0 [], .var 2, .var 3]) := by kernel_rfl
@[simp] theorem kSm (k : Nat) : (ESm k).k = k := rfl
def RSm (ps qs : List PV) : Prop := ∃ (L : List ByteArray) (a : Nat), jmt.Calm L ∧ ps = pD (dk L a) ∧ qs = pD (dk L a)
theorem fSm : ∀ ps q1 q2, RSm ps q1 → RSm ps q2 → q1 = q2 := by
  rintro ps q1 q2 ⟨L, a, _, rfl, rfl⟩ ⟨L', a', _, h, rfl⟩
  exact h
theorem r_repS (n : Nat) : ∃ cs, ropPV (.rep [.string ⟨#[]⟩]) [pI (n : Int)] = some (.row n cs) := by
  have h : (0 : Int) ≤ (n : Int) := by omega
  simp [ropPV, h]
theorem toldSm (k : Nat) : ToldF 50 (ESm k) (spec RSm) := by
  refine told_of mixed_ok names_ok (fun _ _ => none) [.row, .row, .num, .num] ?_
  intro ps qs h _
  obtain ⟨L, a, hc, rfl, rfl⟩ := of_spec h
  simp only [pD, dk]
  have hl := hc.n
  have cl := cellsP_row encS L 1 rfl (by omega)
  have cp := cellsP_row encP [] 2 rfl (by simp)
  have rc := r_cat0 encS L
  have e0 : pRow encP [] = .row 0 [] := rfl
  obtain ⟨cs, rr⟩ := r_repS L.length
  have wl : IntKind.i64.wrap (L.length : Int) = (L.length : Int) := wrapI _ (by omega) (by omega)
  refine ⟨_, _, _, _, _, _, fil.noOrc_ok, sm, fun w FP => ?_, ?_⟩
  have w0 : IntKind.i64.wrap 0 = 0 := by decide
  · simp only [List.mem_cons, List.not_mem_nil, or_false, forall_eq_or_imp, forall_eq]
    simp [holds_idxP, holds_cellsP, Base.ev, SX.ev, evs, Value.oneCell', lenPV_row, lenPV_r, binPV, wl, w0, rr, rc, cl, cp]
    omega
  · simp [evs, SX.ev, rc, e0]
end Go.Proofs.Ytegfdigljpnhcaa.jsm
