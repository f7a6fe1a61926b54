/- What the laws of the journal write: told. -/
import Derived.Test.YtegfdigljpnhcaaJco
namespace Go.Proofs.Ytegfdigljpnhcaa.jlb
open Go Go.RowKit eng SX Fact dsk
open jhd
open jmt hiding Pt Calm
open fil
open rdk hiding dbox
open symD hiding pRow_inj
set_option linter.unusedVariables false
set_option linter.unusedSimpArgs false
set_option maxRecDepth 1000000

def ESc6 (k : Nat) : FnE := { k := k, ins := [none], leaks := [], outs := [none], kinds := [.num] }
def EPt (k : Nat) : FnE := { k := k, ins := [none, none], leaks := [], outs := [none], kinds := [.row] }
def tabP (f : FuncId) : Option FnE := cond (Nat.beq f 26) (some (ESc6 1)) none
noncomputable def flS := flat (bodyOf Try.prog 26)
noncomputable def lpS := flat (loopBody (nth flS 3))
def shS : Shape := ⟨[(0, .leaf)], [], [none], 25, 26⟩
def shSl : Shape := ⟨[(0, .leaf), (3, .own 0 2 1), (4, .leaf)], [jhd.brow 2], [none, none], 25, 26⟩
def shSR : Shape := ⟨[(2, .leaf)], [], [none], 25, 26⟩
noncomputable def flP := flat (bodyOf Try.prog 13)
noncomputable def lpP := flat (loopBody (nth flP 3))
def shP : Shape := ⟨[(0, .leaf), (1, .leaf)], [], [some false, none], 35, 13⟩
def shPn : Shape := ⟨[(0, .leaf), (1, .leaf), (5, .nil), (6, .leaf)], [], [some false, none, none], 35, 13⟩
def shPo : Shape := ⟨[(0, .leaf), (1, .leaf), (5, .own 0 3 2), (6, .leaf)], [pbox 3], [some false, none, none], 35, 13⟩
def shPR : Shape := ⟨[(4, .own 0 0 2)], [pbox 0], [], 35, 13⟩
def shPN : Shape := ⟨[(4, .nil)], [], [], 35, 13⟩
theorem spre : segTo Try.prog fil.noOrc 10000 (flS.take 3) shS [] shSl [(0, 0)] hMk = some (.normal, [same (.con (.int .i64 32)) (.con (.int .i64 32)), upto (.con (.int .i64 32)) 4294967296, .ok (.var 0), .ok (.con (.int .i64 0)), same (.len (rop (ROp.rep [.int .u8 0]) [.con (.int .i64 32)])) (.len (rop (ROp.rep [.int .u8 0]) [.con (.int .i64 32)]))], [.var 0, .con (.int .i64 0), rop (ROp.rep [.int .u8 0]) [.con (.int .i64 32)]]) := by kernel_rfl
theorem sex : segTo Try.prog fil.noOrc 10000 lpS shSl [0] shSl [(0, 0)] = some (.exit 0, [.ok (.bin .lss (.var 1) (.len (.var 2))), .is (.bin .lss (.var 1) (.len (.var 2))) (.bool false), .ok (.var 0), .ok (.var 1), same (.len (.var 2)) (.len (.var 2))], [.var 0, .var 1, .var 2]) := by kernel_rfl
theorem son : segTo Try.prog fil.noOrc 10000 lpS shSl [1] shSl [(0, 0)] = some (.normal, [.ok (.bin .lss (.var 1) (.len (.var 2))), .is (.bin .lss (.var 1) (.len (.var 2))) (.bool true), .ok (.conv .i64 (.var 0)), .ok (.bin .mul (.conv .i64 (.var 0)) (.con (.int .i64 5))), .ok (.bin .mul (.var 1) (.var 1)), .ok (.bin .add (.bin .mul (.conv .i64 (.var 0)) (.con (.int .i64 5))) (.bin .mul (.var 1) (.var 1))), .ok (.conv .u8 (.bin .add (.bin .mul (.conv .i64 (.var 0)) (.con (.int .i64 5))) (.bin .mul (.var 1) (.var 1)))), rng (.var 1) (.len (.var 2)), .idx (.var 2) (.var 1) 1 1, .ok (.bin .add (.var 1) (.con (.int .i64 1))), .ok (.var 0), .ok (.bin .add (.var 1) (.con (.int .i64 1))), same (.len (.var 2)) (.len (rop (ROp.upd 1 0) [.var 2, .var 1, .conv .u8 (.bin .add (.bin .mul (.conv .i64 (.var 0)) (.con (.int .i64 5))) (.bin .mul (.var 1) (.var 1)))]))], [.var 0, .bin .add (.var 1) (.con (.int .i64 1)), rop (ROp.upd 1 0) [.var 2, .var 1, .conv .u8 (.bin .add (.bin .mul (.conv .i64 (.var 0)) (.con (.int .i64 5))) (.bin .mul (.var 1) (.var 1)))]]) := by kernel_rfl
theorem spost : segTo Try.prog fil.noOrc 10000 (flS.drop 4) shSl [] shSR [] = some (.ret, [same (.len (.var 2)) (.len (.var 2)), .ok (rop ROp.toStr [.var 2]), .ok (rop ROp.toStr [.var 2])], [rop ROp.toStr [.var 2]]) := by kernel_rfl
theorem ppre : segTo Try.prog (orcFn tabP) 10000 (flP.take 3) shP [] shPn [] = some (.normal, [.ok (.var 1), .ok (.con (.int .i64 0))], [.var 0, .var 1, .con (.int .i64 0)]) := by kernel_rfl
theorem pxn : segTo Try.prog (orcFn tabP) 10000 lpP shPn [0] shPn [] = some (.exit 0, [.ok (.bin .lss (.var 2) (.var 1)), .is (.bin .lss (.var 2) (.var 1)) (.bool false), .ok (.var 1), .ok (.var 2)], [.var 0, .var 1, .var 2]) := by kernel_rfl
theorem pxo : segTo Try.prog (orcFn tabP) 10000 lpP shPo [0] shPo [(0, 0)] = some (.exit 0, [.ok (.bin .lss (.var 2) (.var 1)), .is (.bin .lss (.var 2) (.var 1)) (.bool false), .ok (.var 1), .ok (.var 2), same (.len (.var 3)) (.len (.var 3))], [.var 0, .var 1, .var 2, .var 3]) := by kernel_rfl
theorem pn0 : segTo Try.prog (orcFn tabP) 10000 lpP shPn [1, 1, 0] shPn [] = some (.normal, [.ok (.bin .lss (.var 2) (.var 1)), .is (.bin .lss (.var 2) (.var 1)) (.bool true), .ok (.len (.var 0)), .ok (.bin .lss (.var 2) (.len (.var 0))), .is (.bin .lss (.var 2) (.len (.var 0))) (.bool true), .idx (.var 0) (.var 2) 1 1, .idx (.var 0) (.var 2) 1 1, .ok (.cell (.var 0) (.var 2) 1 0), .ok (.bin .rem (.cell (.var 0) (.var 2) 1 0) (.con (.int .u8 3))), .ok (.bin .gtr (.bin .rem (.cell (.var 0) (.var 2) 1 0) (.con (.int .u8 3))) (.con (.int .u8 0))), .is (.bin .gtr (.bin .rem (.cell (.var 0) (.var 2) 1 0) (.con (.int .u8 3))) (.con (.int .u8 0))) (.bool false), .ok (.bin .add (.var 2) (.con (.int .i64 1))), .ok (.var 1), .ok (.bin .add (.var 2) (.con (.int .i64 1)))], [.var 0, .var 1, .bin .add (.var 2) (.con (.int .i64 1))]) := by kernel_rfl
theorem pn1 : segTo Try.prog (orcFn tabP) 10000 lpP shPn [1, 1, 1] shPo [(2, 0)] hApp = some (.normal, [.ok (.bin .lss (.var 2) (.var 1)), .is (.bin .lss (.var 2) (.var 1)) (.bool true), .ok (.len (.var 0)), .ok (.bin .lss (.var 2) (.len (.var 0))), .is (.bin .lss (.var 2) (.len (.var 0))) (.bool true), .idx (.var 0) (.var 2) 1 1, .idx (.var 0) (.var 2) 1 1, .ok (.cell (.var 0) (.var 2) 1 0), .ok (.bin .rem (.cell (.var 0) (.var 2) 1 0) (.con (.int .u8 3))), .ok (.bin .gtr (.bin .rem (.cell (.var 0) (.var 2) 1 0) (.con (.int .u8 3))) (.con (.int .u8 0))), .is (.bin .gtr (.bin .rem (.cell (.var 0) (.var 2) 1 0) (.con (.int .u8 3))) (.con (.int .u8 0))) (.bool true), .idx (.var 0) (.var 2) 1 1, .idx (.var 0) (.var 2) 1 1, .ok (.cell (.var 0) (.var 2) 1 0), .fn 26 (ESc6 1) [.cell (.var 0) (.var 2) 1 0], .ok (.fn 1 [.cell (.var 0) (.var 2) 1 0] 0), rng (.con (.int .i64 0)) (.len (.lit 1 [.var 2, .fn 1 [.cell (.var 0) (.var 2) 1 0] 0])), upto (.len (.lit 1 [.var 2, .fn 1 [.cell (.var 0) (.var 2) 1 0] 0])) 4294967296, .ok (.bin .add (.var 2) (.con (.int .i64 1))), .ok (.var 1), .ok (.bin .add (.var 2) (.con (.int .i64 1))), same (.len (.lit 1 [.var 2, .fn 1 [.cell (.var 0) (.var 2) 1 0] 0])) (.len (.lit 1 [.var 2, .fn 1 [.cell (.var 0) (.var 2) 1 0] 0]))], [.var 0, .var 1, .bin .add (.var 2) (.con (.int .i64 1)), .lit 1 [.var 2, .fn 1 [.cell (.var 0) (.var 2) 1 0] 0]]) := by kernel_rfl
theorem po0 : segTo Try.prog (orcFn tabP) 10000 lpP shPo [1, 1, 0] shPo [(0, 0)] = some (.normal, [.ok (.bin .lss (.var 2) (.var 1)), .is (.bin .lss (.var 2) (.var 1)) (.bool true), .ok (.len (.var 0)), .ok (.bin .lss (.var 2) (.len (.var 0))), .is (.bin .lss (.var 2) (.len (.var 0))) (.bool true), .idx (.var 0) (.var 2) 1 1, .idx (.var 0) (.var 2) 1 1, .ok (.cell (.var 0) (.var 2) 1 0), .ok (.bin .rem (.cell (.var 0) (.var 2) 1 0) (.con (.int .u8 3))), .ok (.bin .gtr (.bin .rem (.cell (.var 0) (.var 2) 1 0) (.con (.int .u8 3))) (.con (.int .u8 0))), .is (.bin .gtr (.bin .rem (.cell (.var 0) (.var 2) 1 0) (.con (.int .u8 3))) (.con (.int .u8 0))) (.bool false), .ok (.bin .add (.var 2) (.con (.int .i64 1))), .ok (.var 1), .ok (.bin .add (.var 2) (.con (.int .i64 1))), same (.len (.var 3)) (.len (.var 3))], [.var 0, .var 1, .bin .add (.var 2) (.con (.int .i64 1)), .var 3]) := by kernel_rfl
theorem po1 : segTo Try.prog (orcFn tabP) 10000 lpP shPo [1, 1, 1] shPo [(0, 1)] hApp = some (.normal, [.ok (.bin .lss (.var 2) (.var 1)), .is (.bin .lss (.var 2) (.var 1)) (.bool true), .ok (.len (.var 0)), .ok (.bin .lss (.var 2) (.len (.var 0))), .is (.bin .lss (.var 2) (.len (.var 0))) (.bool true), .idx (.var 0) (.var 2) 1 1, .idx (.var 0) (.var 2) 1 1, .ok (.cell (.var 0) (.var 2) 1 0), .ok (.bin .rem (.cell (.var 0) (.var 2) 1 0) (.con (.int .u8 3))), .ok (.bin .gtr (.bin .rem (.cell (.var 0) (.var 2) 1 0) (.con (.int .u8 3))) (.con (.int .u8 0))), .is (.bin .gtr (.bin .rem (.cell (.var 0) (.var 2) 1 0) (.con (.int .u8 3))) (.con (.int .u8 0))) (.bool true), .idx (.var 0) (.var 2) 1 1, .idx (.var 0) (.var 2) 1 1, .ok (.cell (.var 0) (.var 2) 1 0), .fn 26 (ESc6 1) [.cell (.var 0) (.var 2) 1 0], .ok (.fn 1 [.cell (.var 0) (.var 2) 1 0] 0), same (.len (.var 3)) (.len (.var 3)), upto (.len (rop ROp.cat [.var 3, .lit 1 [.var 2, .fn 1 [.cell (.var 0) (.var 2) 1 0] 0]])) 4294967296, .ok (.bin .add (.var 2) (.con (.int .i64 1))), .ok (.var 1), .ok (.bin .add (.var 2) (.con (.int .i64 1))), same (.len (rop ROp.cat [.var 3, .lit 1 [.var 2, .fn 1 [.cell (.var 0) (.var 2) 1 0] 0]])) (.len (rop ROp.cat [.var 3, .lit 1 [.var 2, .fn 1 [.cell (.var 0) (.var 2) 1 0] 0]]))], [.var 0, .var 1, .bin .add (.var 2) (.con (.int .i64 1)), rop ROp.cat [.var 3, .lit 1 [.var 2, .fn 1 [.cell (.var 0) (.var 2) 1 0] 0]]]) := by kernel_rfl
theorem pfn : segTo Try.prog (orcFn tabP) 10000 (flP.drop 4) shPn [] shPN [] = some (.ret, [], []) := by kernel_rfl
theorem pfo : segTo Try.prog (orcFn tabP) 10000 (flP.drop 4) shPo [] shPR [(0, 0)] = some (.ret, [same (.len (.var 3)) (.len (.var 3))], [.var 3]) := by kernel_rfl

/-! A sector of a number. -/
def secZ (n i : Nat) : Nat := (n * 5 + i * i) % 256
def secK (n k : Nat) : List Nat := (List.range k).map (secZ n) ++ List.replicate (32 - k) 0
def SECL (n : Nat) : List UInt8 := (List.range 32).map fun i => UInt8.ofNat (secZ n i)
def SEC (n : Nat) : ByteArray := ⟨(SECL n).toArray⟩
theorem secK_len (n k : Nat) (h : k ≤ 32) : (secK n k).length = 32 := by simp [secK]; omega
theorem secK_set (n k : Nat) (h : k < 32) : (secK n k).set k (secZ n k) = secK n (k + 1) := by
  have e : 32 - k = (32 - (k + 1)) + 1 := by omega
  unfold secK
  rw [e, List.replicate_succ, List.set_append_right _ _ (by simp), List.range_succ]
  simp
theorem secK_end (n : Nat) : (secK n 32).map UInt8.ofNat = SECL n := by simp [secK, SECL]
theorem secK_lt (n : Nat) : ∀ z ∈ secK n 32, z < 256 := by
  intro z hz
  simp only [secK, Nat.sub_self, List.replicate_zero, List.append_nil, List.mem_map] at hz
  obtain ⟨i, _, rfl⟩ := hz
  exact Nat.mod_lt _ (by omega)
theorem SECL_len (n : Nat) : (SECL n).length = 32 := by simp [SECL]
theorem SEC_size (n : Nat) : (SEC n).size = 32 := by
  show (SECL n).toArray.size = 32
  rw [List.size_toArray, SECL_len]
def RSc6 (ps qs : List PV) : Prop := ∃ n : Nat, n < 256 ∧ ps = [pU (n : Int)] ∧ qs = [pS (SEC n)]
theorem fSc6 : ∀ ps q1 q2, RSc6 ps q1 → RSc6 ps q2 → q1 = q2 := by
  rintro ps q1 q2 ⟨n, _, rfl, rfl⟩ ⟨n', _, h, rfl⟩
  simp only [List.cons.injEq, PV.v.injEq, Value.int.injEq, true_and, and_true, Int.ofNat_inj] at h
  subst h; rfl
theorem cutS : flS = flS.take 3 ++ .block (blockId (nth flS 3)) (.loop (loopBody (nth flS 3))) :: flS.drop 4 := by kernel_rfl
theorem toldSc6 (k0 : Nat) : ToldF 26 (ESc6 k0) (spec RSc6) := by
  refine told_by (fun _ _ => none) _ (bodyOf Try.prog 26) Try.func26 (by kernel_rfl) shS (by kernel_rfl) ?_ ?_
  · intro ps qs h i hi
    obtain ⟨n, _, rfl, rfl⟩ := of_spec h
    simp [shS] at hi
    match i, hi with
    | 0, hi => exact ⟨_, rfl, rfl⟩
    | i + 1, hi => simp at hi
  · intro C ps qs hF h a w hsh
    obtain ⟨n, hn, rfl, rfl⟩ := of_spec h
    show wpL Try.prog flS _ a w
    rw [cutS]
    have r0 : ropPV (.rep [.int .u8 0]) [pI 32] = some (pRow jhd.encU (secK n 0)) := by
      have := r_repU 32
      simpa [secK] using this
    have l3 : (secK n 0).length = 32 := secK_len n 0 (by omega)
    refine seg_ok eng.names_ok eng.mixed_ok fil.noOrc_ok spre hsh ?_ ?_
    · simp only [List.mem_cons, List.not_mem_nil, or_false, forall_eq_or_imp, forall_eq]
      simp [holds_idxP, holds_cellsP, Base.ev, SX.ev, evs, Value.oneCell', lenPV_row, r0, l3]
      exact ⟨⟨32, rfl⟩, ⟨32, rfl, by omega⟩, 32, rfl⟩
    intro qs a1 w1 hq h1
    refine ⟨fun _ => ?_, fun h => absurd rfl h⟩
    simp [evs, SX.ev, r0] at hq
    subst hq
    refine block_loop (fun m a w => ∃ k : Nat, k ≤ 32 ∧ m = 32 - k ∧ InShape C shSl [pU (n : Int), pI (k : Int), pRow jhd.encU (secK n k)] a w) ?_ (n := 32) ⟨0, by omega, by omega, h1⟩
    rintro m a w ⟨k, hk, rfl, hin⟩
    show wpL Try.prog lpS _ a w
    rw [← List.append_nil lpS]
    have h1l := secK_len n k hk
    by_cases hlt : k < 32
    · have h2l := secK_len n (k + 1) hlt
      have ix : IdxP (some (pRow jhd.encU (secK n k))) (some (pI (k : Int))) 1 1 := idxP_row jhd.encU (secK n k) k 1 1 .i64 rfl (by omega) (by decide)
      have v3 : IntKind.i64.wrap ((k : Int) + 1) = (k : Int) + 1 := wrapI _ (by omega) (by omega)
      have wn : IntKind.i64.wrap (n : Int) = (n : Int) := wrapI _ (by omega) (by omega)
      have v5 : IntKind.i64.wrap ((n : Int) * 5) = (n : Int) * 5 := wrapI _ (by omega) (by omega)
      obtain ⟨q, hq⟩ : ∃ q : Nat, q = k * k := ⟨_, rfl⟩
      have hqb : q ≤ 31 * 31 := by rw [hq]; exact Nat.mul_le_mul (by omega) (by omega)
      have hqc : (k : Int) * (k : Int) = (q : Int) := by rw [hq, Int.natCast_mul]
      have vq : IntKind.i64.wrap (q : Int) = (q : Int) := wrapI _ (by omega) (by omega)
      have vs : IntKind.i64.wrap ((n : Int) * 5 + (q : Int)) = (n : Int) * 5 + (q : Int) := wrapI _ (by omega) (by omega)
      obtain ⟨z, hz⟩ : ∃ z : Nat, z = secZ n k := ⟨_, rfl⟩
      have wu : IntKind.u8.wrap ((n : Int) * 5 + (q : Int)) = (z : Int) := by
        rw [hz, secZ, ← hq]
        simp [IntKind.wrap, IntKind.bits, IntKind.signed]
      have ru : ropPV (.upd 1 0) [pRow jhd.encU (secK n k), pI (k : Int), pU (z : Int)] = some (pRow jhd.encU (secK n (k + 1))) := by
        have := r_updE jhd.encU (secK n k) k .i64 z (by omega)
        rw [hz, secK_set n k hlt] at this
        rw [hz]
        exact this
      have again : ∀ qs a1 w1, qs = [pU (n : Int), pI ((k : Int) + 1), pRow jhd.encU (secK n (k + 1))] → InShape C shSl qs a1 w1 → ∃ n', n' < 32 - k ∧ ∃ k' : Nat, k' ≤ 32 ∧ n' = 32 - k' ∧ InShape C shSl [pU (n : Int), pI (k' : Int), pRow jhd.encU (secK n k')] a1 w1 := by
        rintro qs a1 w1 rfl h
        exact ⟨32 - (k + 1), by omega, k + 1, by omega, rfl, h⟩
      generalize secK n (k + 1) = y2 at *
      generalize secK n k = y1 at *
      refine seg_ok eng.names_ok eng.mixed_ok fil.noOrc_ok son hin ?_ (fun qs a1 w1 hq h1 => ⟨fun _ => .inl ⟨rfl, again qs a1 w1 (by simp [evs, SX.ev, binPV, convPV, wn, v5, hqc, vq, vs, wu, v3, ru] at hq; exact hq.symm) h1⟩, fun h => absurd rfl h⟩)
      simp only [List.mem_cons, List.not_mem_nil, or_false, forall_eq_or_imp, forall_eq]
      simp [holds_idxP, holds_cellsP, Base.ev, SX.ev, evs, Value.oneCell', lenPV_row, binPV, convPV, wn, v5, hqc, vq, vs, wu, v3, hlt, ix, ru, h1l, h2l]
      exact ⟨by omega, 32, rfl⟩
    · have hie : k = 32 := by omega
      subst hie
      have hbe : pRow jhd.encU (secK n 32) = pBy (SECL n) := by rw [rowU_by _ (secK_lt n), secK_end]
      rw [hbe] at hin
      have hhl := SECL_len n
      have ht : ropPV .toStr [pBy (SECL n)] = some (pS (SEC n)) := r_toStr (SECL n)
      generalize SECL n = H at *
      generalize SEC n = B at *
      refine seg_ok eng.names_ok eng.mixed_ok fil.noOrc_ok sex hin ?_ ?_
      · simp only [List.mem_cons, List.not_mem_nil, or_false, forall_eq_or_imp, forall_eq]
        simp [holds_idxP, holds_cellsP, Base.ev, SX.ev, evs, Value.oneCell', r_len, binPV, hhl]
        exact ⟨32, rfl⟩
      · intro qs a1 w1 hq h1
        refine ⟨fun h => (by cases h), fun _ => .inr (.inl ⟨by rw [show blockId (nth flS 3) = 0 by kernel_rfl]; rfl, ?_⟩)⟩
        simp [evs, SX.ev] at hq
        subst hq
        rw [← List.append_nil (flS.drop 4)]
        refine seg_ok eng.names_ok eng.mixed_ok fil.noOrc_ok spost h1 ?_ (fun qs a1 w1 hq h1 => ⟨fun h => (by cases h), fun _ => ⟨.inr rfl, shSR, _, [SX.var 0], h1, by kernel_rfl, by simp [evs, SX.ev, ht] at hq; subst hq; rfl⟩⟩)
        simp only [List.mem_cons, List.not_mem_nil, or_false, forall_eq_or_imp, forall_eq]
        simp [holds_idxP, holds_cellsP, Base.ev, SX.ev, evs, Value.oneCell', r_len, ht]

/-! Puts. -/
theorem putsF_app (s : Nat → ByteArray) : ∀ (a b : List Nat) (k : Nat), putsF s k (a ++ b) = putsF s k a ++ putsF s (k + a.length) b
  | [], b, k => by simp [putsF]
  | z :: a, b, k => by
    simp only [List.cons_append, putsF, List.length_cons]
    rw [putsF_app s a b (k + 1), show k + 1 + a.length = k + (a.length + 1) by omega]
    split <;> rfl
def ptK (zs : List Nat) (i : Nat) : List jmt.Pt := putsF SEC 0 (zs.take i)
theorem ptK_one (zs : List Nat) (i : Nat) (h : i < zs.length) (hz : 0 < zs[i] % 3) : ptK zs (i + 1) = ptK zs i ++ [(i, SEC zs[i])] := by
  have hl : (zs.take i).length = i := by rw [List.length_take]; omega
  unfold ptK
  rw [List.take_add_one, List.getElem?_eq_getElem h, Option.toList_some, putsF_app, hl]
  simp [putsF, hz]
theorem ptK_no (zs : List Nat) (i : Nat) (h : i < zs.length) (hz : zs[i] % 3 = 0) : ptK zs (i + 1) = ptK zs i := by
  have hl : (zs.take i).length = i := by rw [List.length_take]; omega
  unfold ptK
  rw [List.take_add_one, List.getElem?_eq_getElem h, Option.toList_some, putsF_app, hl]
  simp [putsF, hz]
theorem ptK_few (zs : List Nat) (i : Nat) : (ptK zs i).length ≤ i := by
  have := puts_few SEC (zs.take i) 0
  rw [List.length_take] at this
  exact Nat.le_trans this (Nat.min_le_left _ _)
theorem cellU (zs : List Nat) (k : Nat) (h : k < zs.length) : cellPV (pRow jhd.encU zs) (pI (k : Int)) 1 0 = some (pU (zs[k] : Int)) := by
  rw [cellPV_row jhd.encU zs k .i64 1 0 rfl h, all_cell jhd.encU zs k 0 zs[k] (List.getElem?_eq_getElem h) (by decide)]; rfl
theorem r_catP (a : List jmt.Pt) (i : Nat) (x : ByteArray) : ropPV .cat [pRow encP a, .row 1 [pI (i : Int), pS x]] = some (pRow encP (a ++ [(i, x)])) := by simp [ropPV, pRow, Enc.all, encP]
theorem row1P (i : Nat) (x : ByteArray) : (PV.row 1 [pI (i : Int), pS x]) = pRow encP [(i, x)] := by simp [pRow, Enc.all, encP]
def RPt (ps qs : List PV) : Prop := ∃ zs : List Nat, zs.length = 8 ∧ (∀ z ∈ zs, z < 256) ∧ ps = [pRow jhd.encU zs, pI 8] ∧ qs = [pRow encP (putsF SEC 0 zs)]
theorem encU_inj : ∀ xs ys : List Nat, jhd.encU.all xs = jhd.encU.all ys → xs = ys
  | [], [], _ => rfl
  | [], _ :: _, h => by simp [Enc.all, jhd.encU] at h
  | _ :: _, [], h => by simp [Enc.all, jhd.encU] at h
  | x :: xs, y :: ys, h => by
    rw [Enc.all_cons, Enc.all_cons] at h
    obtain ⟨h1, h2⟩ := List.append_inj h (by rw [jhd.encU.len, jhd.encU.len])
    simp only [jhd.encU, List.cons.injEq, Value.int.injEq, true_and, and_true, Int.ofNat_inj] at h1
    rw [h1, encU_inj xs ys h2]
theorem fPt : ∀ ps q1 q2, RPt ps q1 → RPt ps q2 → q1 = q2 := by
  rintro ps q1 q2 ⟨l, _, _, rfl, rfl⟩ ⟨l', _, _, h, rfl⟩
  simp only [List.cons.injEq, and_true] at h
  rw [symD.pRow_inj encU_inj h]
noncomputable def FP : Fns := fun k => match k with | 1 => spec RSc6 | _ => fun _ => none
theorem FP1 {n : Nat} (h : n < 256) : FP 1 [pU (n : Int)] = some [pS (SEC n)] := spec_of fSc6 ⟨n, h, rfl, rfl⟩
@[simp] theorem kSc6 (k : Nat) : (ESc6 k).k = k := rfl
@[simp] theorem kPt (k : Nat) : (EPt k).k = k := rfl
theorem cutP : flP = flP.take 3 ++ .block (blockId (nth flP 3)) (.loop (loopBody (nth flP 3))) :: flP.drop 4 := by kernel_rfl
theorem toldPt (k0 : Nat) : ToldF 13 (EPt k0) (spec RPt) := by
  have t1 : ToldF 26 (ESc6 1) (FP 1) := toldSc6 1
  refine told_by FP _ (bodyOf Try.prog 13) Try.func13 (by kernel_rfl) shP (by kernel_rfl) ?_ ?_
  · intro ps qs h i hi
    obtain ⟨zs, _, _, rfl, rfl⟩ := of_spec h
    simp [shP] at hi
    match i, hi with
    | 0, hi => simp at hi
    | 1, hi => exact ⟨_, rfl, rfl⟩
    | i + 2, hi => simp at hi
  · intro C ps qs hF h a w hsh
    obtain ⟨zs, h8, hb, rfl, rfl⟩ := of_spec h
    show wpL Try.prog flP _ a w
    rw [cutP]
    refine seg_ok eng.names_ok eng.mixed_ok (orcFn_ok _) ppre hsh ?_ ?_
    · simp only [List.mem_cons, List.not_mem_nil, or_false, forall_eq_or_imp, forall_eq]
      simp [holds_idxP, holds_cellsP, Base.ev, SX.ev, evs, Value.oneCell', lenPV_row]
    intro qs a1 w1 hq h1
    refine ⟨fun _ => ?_, fun h => absurd rfl h⟩
    simp [evs, SX.ev] at hq
    subst hq
    have hend : ptK zs 8 = putsF SEC 0 zs := by rw [ptK, List.take_of_length_le (by omega)]
    rw [← hend]
    refine block_loop (fun m a w => ∃ i : Nat, i ≤ 8 ∧ m = 8 - i ∧ ((ptK zs i = [] ∧ InShape C shPn [pRow jhd.encU zs, pI 8, pI (i : Int)] a w) ∨ InShape C shPo [pRow jhd.encU zs, pI 8, pI (i : Int), pRow encP (ptK zs i)] a w)) ?_ (n := 8) ⟨0, by omega, by omega, .inl ⟨rfl, h1⟩⟩
    rintro m a w ⟨i, hi, rfl, hin⟩
    show wpL Try.prog lpP _ a w
    rw [← List.append_nil lpP]
    have hfew := ptK_few zs i
    by_cases hlt : i < 8
    · have hlz : i < zs.length := by omega
      have hzi := hb _ (List.getElem_mem hlz)
      have c0 := cellU zs i hlz
      have ix : IdxP (some (pRow jhd.encU zs)) (some (pI (i : Int))) 1 1 := idxP_row jhd.encU zs i 1 1 .i64 rfl hlz (by decide)
      have v3 : IntKind.i64.wrap ((i : Int) + 1) = (i : Int) + 1 := wrapI _ (by omega) (by omega)
      have f1 := FP1 hzi
      have tz : ((zs[i] : Int).tmod 3) = ((zs[i] % 3 : Nat) : Int) := rfl
      have k1 := ptK_one zs i hlz
      have k0 := ptK_no zs i hlz
      have hlt' : (i : Int) < 8 := by omega
      have hlz' : (i : Int) < (zs.length : Int) := by omega
      have nextN : ∀ qs a1 w1, ptK zs (i + 1) = [] → qs = [pRow jhd.encU zs, pI 8, pI ((i : Int) + 1)] → InShape C shPn qs a1 w1 → ∃ n', n' < 8 - i ∧ ∃ i' : Nat, i' ≤ 8 ∧ n' = 8 - i' ∧ ((ptK zs i' = [] ∧ InShape C shPn [pRow jhd.encU zs, pI 8, pI (i' : Int)] a1 w1) ∨ InShape C shPo [pRow jhd.encU zs, pI 8, pI (i' : Int), pRow encP (ptK zs i')] a1 w1) := by
        rintro qs a1 w1 he rfl h
        exact ⟨8 - (i + 1), by omega, i + 1, by omega, rfl, .inl ⟨he, h⟩⟩
      have nextO : ∀ qs a1 w1, qs = [pRow jhd.encU zs, pI 8, pI ((i : Int) + 1), pRow encP (ptK zs (i + 1))] → InShape C shPo qs a1 w1 → ∃ n', n' < 8 - i ∧ ∃ i' : Nat, i' ≤ 8 ∧ n' = 8 - i' ∧ ((ptK zs i' = [] ∧ InShape C shPn [pRow jhd.encU zs, pI 8, pI (i' : Int)] a1 w1) ∨ InShape C shPo [pRow jhd.encU zs, pI 8, pI (i' : Int), pRow encP (ptK zs i')] a1 w1) := by
        rintro qs a1 w1 rfl h
        exact ⟨8 - (i + 1), by omega, i + 1, by omega, rfl, .inr h⟩
      by_cases hz : zs[i] % 3 = 0
      · have k0 := k0 hz
        have hz' : ((zs[i] : Int).tmod 3) = 0 := by rw [tz, hz]; rfl
        clear k1
        rw [k0] at nextN nextO
        generalize (zs[i] : Int) = zi at *
        rcases hin with ⟨he, hin⟩ | hin
        · refine seg_ok eng.names_ok eng.mixed_ok (orcFn_ok _) pn0 hin ?_ (fun qs a1 w1 hq h1 => ⟨fun _ => .inl ⟨rfl, nextN qs a1 w1 he (by simp [evs, SX.ev, binPV, v3] at hq; exact hq.symm) h1⟩, fun h => absurd rfl h⟩)
          simp only [List.mem_cons, List.not_mem_nil, or_false, forall_eq_or_imp, forall_eq]
          simp [holds_idxP, holds_cellsP, Base.ev, SX.ev, evs, Value.oneCell', lenPV_row, binPV, v3, hlt', hlz', ix, c0, hz']
        · generalize ptK zs i = y at *
          refine seg_ok eng.names_ok eng.mixed_ok (orcFn_ok _) po0 hin ?_ (fun qs a1 w1 hq h1 => ⟨fun _ => .inl ⟨rfl, nextO qs a1 w1 (by simp [evs, SX.ev, binPV, v3] at hq; exact hq.symm) h1⟩, fun h => absurd rfl h⟩)
          simp only [List.mem_cons, List.not_mem_nil, or_false, forall_eq_or_imp, forall_eq]
          simp [holds_idxP, holds_cellsP, Base.ev, SX.ev, evs, Value.oneCell', lenPV_row, binPV, v3, hlt', hlz', ix, c0, hz']
      · have k1 := k1 (by omega)
        have hz' : 0 < ((zs[i] : Int).tmod 3) := by rw [tz]; omega
        clear k0
        rw [k1] at nextN nextO
        have rc := r_catP (ptK zs i) i (SEC zs[i])
        have r1 := row1P i (SEC zs[i])
        have hlc : (ptK zs i ++ [(i, SEC zs[i])]).length = (ptK zs i).length + 1 := by simp
        generalize SEC zs[i] = sx at *
        generalize (zs[i] : Int) = zi at *
        rcases hin with ⟨he, hin⟩ | hin
        · rw [he] at nextO
          refine seg_ok eng.names_ok eng.mixed_ok (orcFn_ok _) pn1 hin ?_ (fun qs a1 w1 hq h1 => ⟨fun _ => .inl ⟨rfl, nextO qs a1 w1 (by simp [evs, SX.ev, hF, binPV, v3, c0, f1] at hq; rw [← hq, List.nil_append, ← r1]) h1⟩, fun h => absurd rfl h⟩)
          simp only [List.mem_cons, List.not_mem_nil, or_false, forall_eq_or_imp, forall_eq]
          simp [holds_idxP, holds_cellsP, Base.ev, SX.ev, evs, Value.oneCell', hF, lenPV_row, lenPV_r, binPV, v3, hlt', hlz', ix, c0, hz', f1, t1]
        · generalize ptK zs i ++ [(i, sx)] = y2 at *
          generalize ptK zs i = y at *
          refine seg_ok eng.names_ok eng.mixed_ok (orcFn_ok _) po1 hin ?_ (fun qs a1 w1 hq h1 => ⟨fun _ => .inl ⟨rfl, nextO qs a1 w1 (by simp [evs, SX.ev, hF, binPV, v3, c0, f1, rc] at hq; exact hq.symm) h1⟩, fun h => absurd rfl h⟩)
          simp only [List.mem_cons, List.not_mem_nil, or_false, forall_eq_or_imp, forall_eq]
          simp [holds_idxP, holds_cellsP, Base.ev, SX.ev, evs, Value.oneCell', hF, lenPV_row, lenPV_r, binPV, v3, hlt', hlz', ix, c0, hz', f1, t1, rc, hlc]
          exact ⟨⟨y.length + 1, by omega, by omega⟩, y.length + 1, by omega⟩
    · have hie : i = 8 := by omega
      subst hie
      have fin : ∀ a1 w1, ((ptK zs 8 = [] ∧ InShape C shPn [pRow jhd.encU zs, pI 8, pI ((8 : Nat) : Int)] a1 w1) ∨ InShape C shPo [pRow jhd.encU zs, pI 8, pI ((8 : Nat) : Int), pRow encP (ptK zs 8)] a1 w1) → wpL Try.prog (flP.drop 4) (fun e a' w' => (e = .normal ∨ e = .ret) ∧ ∃ sh' ps' es, InShape C sh' ps' a' w' ∧ resTo Try.prog Try.f13 sh' (EPt k0) = some es ∧ evs (fun i => ps'[i]?) FP es = some [pRow encP (ptK zs 8)]) a1 w1 := by
        rintro a1 w1 (⟨he, h⟩ | h)
        · rw [← List.append_nil (flP.drop 4), he]
          refine seg_ok eng.names_ok eng.mixed_ok (orcFn_ok _) pfn h ?_ (fun qs a1 w1 hq h1 => ⟨fun h => (by cases h), fun _ => ⟨.inr rfl, shPN, _, [SX.lit 0 []], h1, by kernel_rfl, by simp [evs, SX.ev]; rfl⟩⟩)
          simp
        · rw [← List.append_nil (flP.drop 4)]
          generalize ptK zs 8 = y at *
          refine seg_ok eng.names_ok eng.mixed_ok (orcFn_ok _) pfo h ?_ (fun qs a1 w1 hq h1 => ⟨fun h => (by cases h), fun _ => ⟨.inr rfl, shPR, _, [SX.var 0], h1, by kernel_rfl, by simp [evs, SX.ev] at hq; subst hq; rfl⟩⟩)
          simp only [List.mem_cons, List.not_mem_nil, or_false, forall_eq_or_imp, forall_eq]
          simp [holds_idxP, holds_cellsP, Base.ev, SX.ev, evs, Value.oneCell', lenPV_row]
      rcases hin with ⟨he, hin⟩ | hin
      · refine seg_ok eng.names_ok eng.mixed_ok (orcFn_ok _) pxn hin ?_ (fun qs a1 w1 hq h1 => ⟨fun h => (by cases h), fun _ => .inr (.inl ⟨by rw [show blockId (nth flP 3) = 0 by kernel_rfl]; rfl, fin a1 w1 (.inl ⟨he, by simp [evs, SX.ev] at hq; subst hq; exact h1⟩)⟩)⟩)
        simp only [List.mem_cons, List.not_mem_nil, or_false, forall_eq_or_imp, forall_eq]
        simp [holds_idxP, holds_cellsP, Base.ev, SX.ev, evs, Value.oneCell', lenPV_row, binPV]
      · refine seg_ok eng.names_ok eng.mixed_ok (orcFn_ok _) pxo hin ?_ (fun qs a1 w1 hq h1 => ⟨fun h => (by cases h), fun _ => .inr (.inl ⟨by rw [show blockId (nth flP 3) = 0 by kernel_rfl]; rfl, fin a1 w1 (.inr (by simp [evs, SX.ev] at hq; subst hq; exact h1))⟩)⟩)
        simp only [List.mem_cons, List.not_mem_nil, or_false, forall_eq_or_imp, forall_eq]
        simp [holds_idxP, holds_cellsP, Base.ev, SX.ev, evs, Value.oneCell', lenPV_row, binPV]
end Go.Proofs.Ytegfdigljpnhcaa.jlb
