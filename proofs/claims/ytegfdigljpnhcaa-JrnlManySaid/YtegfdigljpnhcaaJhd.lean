/- A head, what it lists, copies, a sector read: told. -/
import Derived.Test.YtegfdigljpnhcaaRdkA
import Derived.Test.YtegfdigljpnhcaaJmu
namespace Go.Proofs.Ytegfdigljpnhcaa.jhd
open Go Go.RowKit eng SX Fact fil dsk jmt
open rdk hiding dbox
open symD hiding pRow_inj
set_option linter.unusedVariables false
set_option linter.unusedSimpArgs false
set_option maxRecDepth 1000000

def encU : Enc Nat := { sz := 1, enc := fun z => [.int .u8 (z : Int)], len := fun _ => rfl, one := fun _ u hu => by simp at hu; subst hu; rfl, pos := by decide }
def EHd (k : Nat) : FnE := { k := k, ins := [none], leaks := [], outs := [none], kinds := [.num] }
def ELs (k : Nat) : FnE := { k := k, ins := [none], leaks := [], outs := [none], kinds := [.row] }
def EMr (k : Nat) : FnE := { k := k, ins := [some 4, none], leaks := [], outs := [none], kinds := [.num] }
def ECp (k : Nat) : FnE := { k := k, ins := [none, none], leaks := [], outs := [none], kinds := [.row] }
def tabM (f : FuncId) : Option FnE := cond (Nat.beq f 84) (some (ERead 1)) none
def isMk : Op → Bool | .makeSlice .. => true | _ => false
def hMk (_ : FuncId) (o : Oper) : Option Hint := cond (isMk o.op || isApp o.op) (some .own) none
def brow (k : Nat) : BoxT := ⟨5, 1, true, [], some k, false⟩
def ibox (k : Nat) : BoxT := ⟨3, 1, true, [], some k, false⟩
def pbox (k : Nat) : BoxT := ⟨37, 2, true, [], some k, false⟩
noncomputable def flH := flat (bodyOf Try.prog 35)
noncomputable def lpH := flat (loopBody (nth flH 4))
def shH : Shape := ⟨[(0, .leaf)], [], [some false], 32, 35⟩
def shHl : Shape := ⟨[(3, .own 0 3 1), (16, .leaf), (17, .leaf), (18, .leaf)], [brow 3], [some false, none, none], 32, 35⟩
def shHR : Shape := ⟨[(2, .leaf)], [], [none], 32, 35⟩
noncomputable def flL := flat (bodyOf Try.prog 63)
noncomputable def lpL := flat (loopBody (nth flL 5))
def shL : Shape := ⟨[(0, .leaf)], [], [none], 31, 63⟩
def shLl : Shape := ⟨[(0, .leaf), (3, .own 0 3 1), (17, .leaf), (18, .leaf)], [ibox 3], [none, none, none], 31, 63⟩
def shLR : Shape := ⟨[(2, .own 0 0 1)], [ibox 0], [], 31, 63⟩
def shLN : Shape := ⟨[(2, .nil)], [], [], 31, 63⟩
noncomputable def flC := flat (bodyOf Try.prog 34)
noncomputable def lpC := flat (loopBody (nth flC 3))
def shC : Shape := ⟨[(0, .leaf), (1, .leaf)], [], [none, some false], 24, 34⟩
def shCl : Shape := ⟨[(0, .leaf), (1, .own 0 3 2), (10, .leaf), (11, .leaf)], [pbox 3], [none, none, none], 24, 34⟩
def shCR : Shape := ⟨[(4, .own 0 0 2)], [pbox 0], [], 24, 34⟩
theorem hpre : segTo Try.prog fil.noOrc 10000 (flH.take 4) shH [] shHl [(1, 0)] hMk = some (.normal, [same (.con (.int .i64 32)) (.con (.int .i64 32)), upto (.con (.int .i64 32)) 4294967296, .ok (.len (.var 0)), .ok (.conv .u8 (.len (.var 0))), rng (.con (.int .i64 0)) (.len (rop (ROp.rep [.int .u8 0]) [.con (.int .i64 32)])), .idx (rop (ROp.rep [.int .u8 0]) [.con (.int .i64 32)]) (.con (.int .i64 0)) 1 1, rng (.con (.int .i64 1)) (.len (rop (ROp.rep [.int .u8 0]) [.con (.int .i64 32)])), .idx (rop (ROp.upd 1 0) [rop (ROp.rep [.int .u8 0]) [.con (.int .i64 32)], .con (.int .i64 0), .con (.int .u8 1)]) (.con (.int .i64 1)) 1 1, rng (.con (.int .i64 31)) (.len (rop (ROp.rep [.int .u8 0]) [.con (.int .i64 32)])), .idx (rop (ROp.upd 1 0) [rop (ROp.upd 1 0) [rop (ROp.rep [.int .u8 0]) [.con (.int .i64 32)], .con (.int .i64 0), .con (.int .u8 1)], .con (.int .i64 1), .conv .u8 (.len (.var 0))]) (.con (.int .i64 31)) 1 1, .ok (.len (.var 0)), .ok (.len (.var 0)), .ok (.con (.int .i64 0)), same (.len (rop (ROp.rep [.int .u8 0]) [.con (.int .i64 32)])) (.len (rop (ROp.upd 1 0) [rop (ROp.upd 1 0) [rop (ROp.upd 1 0) [rop (ROp.rep [.int .u8 0]) [.con (.int .i64 32)], .con (.int .i64 0), .con (.int .u8 1)], .con (.int .i64 1), .conv .u8 (.len (.var 0))], .con (.int .i64 31), .con (.int .u8 1)]))], [.var 0, .len (.var 0), .con (.int .i64 0), rop (ROp.upd 1 0) [rop (ROp.upd 1 0) [rop (ROp.upd 1 0) [rop (ROp.rep [.int .u8 0]) [.con (.int .i64 32)], .con (.int .i64 0), .con (.int .u8 1)], .con (.int .i64 1), .conv .u8 (.len (.var 0))], .con (.int .i64 31), .con (.int .u8 1)]]) := by kernel_rfl
theorem hex : segTo Try.prog fil.noOrc 10000 lpH shHl [0] shHl [(0, 0)] = some (.exit 0, [.ok (.bin .lss (.var 2) (.var 1)), .is (.bin .lss (.var 2) (.var 1)) (.bool false), .ok (.var 1), .ok (.var 2), same (.len (.var 3)) (.len (.var 3))], [.var 0, .var 1, .var 2, .var 3]) := by kernel_rfl
theorem hon : segTo Try.prog fil.noOrc 10000 lpH shHl [1] shHl [(0, 0)] = some (.normal, [.ok (.bin .lss (.var 2) (.var 1)), .is (.bin .lss (.var 2) (.var 1)) (.bool true), .idx (.var 0) (.var 2) 1 1, .idx (.var 0) (.var 2) 1 1, .ok (.cell (.var 0) (.var 2) 1 0), .ok (.bin .add (.con (.int .i64 2)) (.var 2)), .ok (.conv .u8 (.cell (.var 0) (.var 2) 1 0)), rng (.bin .add (.con (.int .i64 2)) (.var 2)) (.len (.var 3)), .idx (.var 3) (.bin .add (.con (.int .i64 2)) (.var 2)) 1 1, .ok (.bin .add (.var 2) (.con (.int .i64 1))), .ok (.var 1), .ok (.bin .add (.var 2) (.con (.int .i64 1))), same (.len (.var 3)) (.len (rop (ROp.upd 1 0) [.var 3, .bin .add (.con (.int .i64 2)) (.var 2), .conv .u8 (.cell (.var 0) (.var 2) 1 0)]))], [.var 0, .var 1, .bin .add (.var 2) (.con (.int .i64 1)), rop (ROp.upd 1 0) [.var 3, .bin .add (.con (.int .i64 2)) (.var 2), .conv .u8 (.cell (.var 0) (.var 2) 1 0)]]) := by kernel_rfl
theorem hpost : segTo Try.prog fil.noOrc 10000 (flH.drop 5) shHl [] shHR [] = some (.ret, [same (.len (.var 3)) (.len (.var 3)), .ok (rop ROp.toStr [.var 3]), .ok (rop ROp.toStr [.var 3])], [rop ROp.toStr [.var 3]]) := by kernel_rfl
theorem lno : segTo Try.prog fil.noOrc 10000 flL shL [0, 1] shLN [] = some (.ret, [.ok (.slen (.var 0)), .ok (.bin .neq (.slen (.var 0)) (.con (.int .i64 32))), .is (.bin .neq (.slen (.var 0)) (.con (.int .i64 32))) (.bool false), .ok (sidx (.var 0) (.con (.int .i64 1))), .ok (.bin .gtr (sidx (.var 0) (.con (.int .i64 1))) (.con (.int .u8 16))), .is (.bin .gtr (sidx (.var 0) (.con (.int .i64 1))) (.con (.int .u8 16))) (.bool true)], []) := by kernel_rfl
theorem lpre : segTo Try.prog fil.noOrc 10000 (flL.take 5) shL [0, 0] shLl [(0, 0)] hMk = some (.normal, [.ok (.slen (.var 0)), .ok (.bin .neq (.slen (.var 0)) (.con (.int .i64 32))), .is (.bin .neq (.slen (.var 0)) (.con (.int .i64 32))) (.bool false), .ok (sidx (.var 0) (.con (.int .i64 1))), .ok (.bin .gtr (sidx (.var 0) (.con (.int .i64 1))) (.con (.int .u8 16))), .is (.bin .gtr (sidx (.var 0) (.con (.int .i64 1))) (.con (.int .u8 16))) (.bool false), .ok (sidx (.var 0) (.con (.int .i64 1))), same (.conv .i64 (sidx (.var 0) (.con (.int .i64 1)))) (.conv .i64 (sidx (.var 0) (.con (.int .i64 1)))), upto (.conv .i64 (sidx (.var 0) (.con (.int .i64 1)))) 4294967296, .ok (.var 0), .ok (.len (rop (ROp.rep [.int .i64 0]) [.conv .i64 (sidx (.var 0) (.con (.int .i64 1)))])), .ok (.con (.int .i64 0)), same (.len (rop (ROp.rep [.int .i64 0]) [.conv .i64 (sidx (.var 0) (.con (.int .i64 1)))])) (.len (rop (ROp.rep [.int .i64 0]) [.conv .i64 (sidx (.var 0) (.con (.int .i64 1)))]))], [.var 0, .len (rop (ROp.rep [.int .i64 0]) [.conv .i64 (sidx (.var 0) (.con (.int .i64 1)))]), .con (.int .i64 0), rop (ROp.rep [.int .i64 0]) [.conv .i64 (sidx (.var 0) (.con (.int .i64 1)))]]) := by kernel_rfl
theorem lex : segTo Try.prog fil.noOrc 10000 lpL shLl [0] shLl [(0, 0)] = some (.exit 0, [.ok (.bin .lss (.var 2) (.var 1)), .is (.bin .lss (.var 2) (.var 1)) (.bool false), .ok (.var 0), .ok (.var 1), .ok (.var 2), same (.len (.var 3)) (.len (.var 3))], [.var 0, .var 1, .var 2, .var 3]) := by kernel_rfl
theorem lon : segTo Try.prog fil.noOrc 10000 lpL shLl [1] shLl [(0, 0)] = some (.normal, [.ok (.bin .lss (.var 2) (.var 1)), .is (.bin .lss (.var 2) (.var 1)) (.bool true), .ok (.bin .add (.con (.int .i64 2)) (.var 2)), .ok (sidx (.var 0) (.bin .add (.con (.int .i64 2)) (.var 2))), .ok (.conv .i64 (sidx (.var 0) (.bin .add (.con (.int .i64 2)) (.var 2)))), rng (.var 2) (.len (.var 3)), .idx (.var 3) (.var 2) 1 1, .ok (.bin .add (.var 2) (.con (.int .i64 1))), .ok (.var 0), .ok (.var 1), .ok (.bin .add (.var 2) (.con (.int .i64 1))), same (.len (.var 3)) (.len (rop (ROp.upd 1 0) [.var 3, .var 2, .conv .i64 (sidx (.var 0) (.bin .add (.con (.int .i64 2)) (.var 2)))]))], [.var 0, .var 1, .bin .add (.var 2) (.con (.int .i64 1)), rop (ROp.upd 1 0) [.var 3, .var 2, .conv .i64 (sidx (.var 0) (.bin .add (.con (.int .i64 2)) (.var 2)))]]) := by kernel_rfl
theorem lpost : segTo Try.prog fil.noOrc 10000 (flL.drop 6) shLl [] shLR [(0, 0)] = some (.ret, [same (.len (.var 3)) (.len (.var 3))], [.var 3]) := by kernel_rfl
theorem mr1 : runTo Try.prog (orcFn tabM) 10000 62 (EMr 9) [.row, .row, .num, .num, .num] [1] = some ([.ok (.var 2), .ok (.var 3), .ok (.var 4), .fn 84 (ERead 1) [.var 0, .var 1, .var 2, .var 3, .var 4], .ok (.fn 1 [.var 0, .var 1, .var 2, .var 3, .var 4] 0), .is (.fn 1 [.var 0, .var 1, .var 2, .var 3, .var 4] 1) (.bool true)], [.fn 1 [.var 0, .var 1, .var 2, .var 3, .var 4] 0]) := by kernel_rfl
theorem cpre : segTo Try.prog fil.noOrc 10000 (flC.take 3) shC [0, 0, 1, 1] shCl [(2, 2)] hMk = some (.normal, [.ok (.len (.var 1)), .ok (.bin .add (.con (.int .i64 0)) (.len (.var 1))), .ok (.bin .lss (.bin .add (.con (.int .i64 0)) (.len (.var 1))) (.con (.int .i64 0))), .is (.bin .lss (.bin .add (.con (.int .i64 0)) (.len (.var 1))) (.con (.int .i64 0))) (.bool false), .ok (.bin .lss (.bin .add (.con (.int .i64 0)) (.len (.var 1))) (.con (.int .i64 0))), .is (.bin .lss (.bin .add (.con (.int .i64 0)) (.len (.var 1))) (.con (.int .i64 0))) (.bool false), .ok (.bin .sub (.bin .add (.con (.int .i64 0)) (.len (.var 1))) (.con (.int .i64 0))), .ok (.bin .gtr (.bin .sub (.bin .add (.con (.int .i64 0)) (.len (.var 1))) (.con (.int .i64 0))) (.con (.int .i64 0))), .is (.bin .gtr (.bin .sub (.bin .add (.con (.int .i64 0)) (.len (.var 1))) (.con (.int .i64 0))) (.con (.int .i64 0))) (.bool true), upto (.bin .sub (.bin .add (.con (.int .i64 0)) (.len (.var 1))) (.con (.int .i64 0))) 4294967296, rng (.con (.int .i64 0)) (.len (rop (ROp.rep [.int .i64 0, .string { data := { toList := [] } }]) [.bin .sub (.bin .add (.con (.int .i64 0)) (.len (.var 1))) (.con (.int .i64 0))])), upto (.len (rop (ROp.rep [.int .i64 0, .string { data := { toList := [] } }]) [.bin .sub (.bin .add (.con (.int .i64 0)) (.len (.var 1))) (.con (.int .i64 0))])) 4294967296, cells (.var 1) 2, same (.con (.int .i64 0)) (.len (.lit 0 [])), upto (.len (rop ROp.cat [.lit 0 [], .var 1])) 4294967296, .ok (.var 0), .ok (.len (rop ROp.cat [.lit 0 [], .var 1])), .ok (.con (.int .i64 0)), same (.len (rop ROp.cat [.lit 0 [], .var 1])) (.len (rop ROp.cat [.lit 0 [], .var 1]))], [.var 0, .len (rop ROp.cat [.lit 0 [], .var 1]), .con (.int .i64 0), rop ROp.cat [.lit 0 [], .var 1]]) := by kernel_rfl
theorem cex : segTo Try.prog fil.noOrc 10000 lpC shCl [0] shCl [(0, 0)] = some (.exit 0, [.ok (.bin .lss (.var 2) (.var 1)), .is (.bin .lss (.var 2) (.var 1)) (.bool false), .ok (.var 0), .ok (.var 1), .ok (.var 2), same (.len (.var 3)) (.len (.var 3))], [.var 0, .var 1, .var 2, .var 3]) := by kernel_rfl
theorem con' : segTo Try.prog fil.noOrc 10000 lpC shCl [1] shCl [(0, 0)] = some (.normal, [.ok (.bin .lss (.var 2) (.var 1)), .is (.bin .lss (.var 2) (.var 1)) (.bool true), .ok (.bin .add (.var 0) (.con (.int .i64 1))), .ok (.bin .add (.bin .add (.var 0) (.con (.int .i64 1))) (.var 2)), rng (.var 2) (.len (.var 3)), .idx (.var 3) (.var 2) 2 1, .ok (.bin .add (.var 2) (.con (.int .i64 1))), .ok (.var 0), .ok (.var 1), .ok (.bin .add (.var 2) (.con (.int .i64 1))), same (.len (.var 3)) (.len (rop (ROp.upd 2 0) [.var 3, .var 2, .bin .add (.bin .add (.var 0) (.con (.int .i64 1))) (.var 2)]))], [.var 0, .var 1, .bin .add (.var 2) (.con (.int .i64 1)), rop (ROp.upd 2 0) [.var 3, .var 2, .bin .add (.bin .add (.var 0) (.con (.int .i64 1))) (.var 2)]]) := by kernel_rfl
theorem cpost : segTo Try.prog fil.noOrc 10000 (flC.drop 4) shCl [] shCR [(0, 0)] = some (.ret, [same (.len (.var 3)) (.len (.var 3))], [.var 3]) := by kernel_rfl

theorem rowU_by (zs : List Nat) (h : ∀ z ∈ zs, z < 256) : pRow encU zs = pBy (zs.map UInt8.ofNat) := by
  have e : ∀ zs : List Nat, (∀ z ∈ zs, z < 256) → (encU.all zs).map PV.v = (zs.map UInt8.ofNat).map fun b => PV.v (.int .u8 (b.toNat : Int)) := by
    intro zs
    induction zs with
    | nil => intro _; rfl
    | cons z zs ih =>
      intro h
      rw [Enc.all_cons, List.map_append, ih (fun y hy => h y (by simp [hy]))]
      have hz : (UInt8.ofNat z).toNat = z := by
        have := h z (by simp)
        simp; omega
      simp only [encU, List.map_cons, List.map_nil, List.cons_append, List.nil_append, hz]
  simp only [pRow, pBy, e zs h, List.length_map]
theorem r_repU (n : Nat) : ropPV (.rep [.int .u8 0]) [pI (n : Int)] = some (pRow encU (List.replicate n 0)) := by
  have h : (0 : Int) ≤ (n : Int) := by omega
  have e : ∀ n : Nat, List.replicate n (PV.v (Value.int IntKind.u8 0)) = List.map PV.v (List.flatMap (fun z : Nat => [Value.int IntKind.u8 (z : Int)]) (List.replicate n 0)) := fun n => by
    induction n with
    | zero => rfl
    | succ n ih => rw [List.replicate_succ, List.replicate_succ, List.flatMap_cons, List.map_append, ih]; rfl
  simp [ropPV, h, pRow, Enc.all, encU, e]
theorem r_repI (n : Nat) : ropPV (.rep [.int .i64 0]) [pI (n : Int)] = some (pRow encI (List.replicate n 0)) := by
  have h : (0 : Int) ≤ (n : Int) := by omega
  have e : ∀ n : Nat, List.replicate n (PV.v (Value.int IntKind.i64 0)) = List.map PV.v (List.flatMap (fun z => [Value.int IntKind.i64 z]) (List.replicate n 0)) := fun n => by
    induction n with
    | zero => rfl
    | succ n ih => rw [List.replicate_succ, List.replicate_succ, List.flatMap_cons, List.map_append, ih]; rfl
  simp [ropPV, h, pRow, Enc.all, encI, e]
theorem wrapU (x : Int) (h0 : 0 ≤ x) (h1 : x < 256) : IntKind.u8.wrap x = x := by
  simp [IntKind.wrap, IntKind.bits, IntKind.signed]
  omega
@[simp] theorem kHd (k : Nat) : (EHd k).k = k := rfl
@[simp] theorem kLs (k : Nat) : (ELs k).k = k := rfl
@[simp] theorem kMr (k : Nat) : (EMr k).k = k := rfl
@[simp] theorem kCp (k : Nat) : (ECp k).k = k := rfl
@[simp] theorem kRd (k : Nat) : (ERead k).k = k := rfl

/-! A head. -/
def hdK (a : List Nat) (k : Nat) : List Nat := 1 :: a.length :: (a.take k ++ (List.replicate (29 - k) 0 ++ [1]))
theorem hdK_len (a : List Nat) (k : Nat) (hk : k ≤ a.length) (h : a.length ≤ 16) : (hdK a k).length = 32 := by simp [hdK]; omega
theorem hdK_set (a : List Nat) (k : Nat) (hk : k < a.length) (h : a.length ≤ 16) : (hdK a k).set (k + 1 + 1) a[k] = hdK a (k + 1) := by
  have hl : (a.take k).length = k := by simp; omega
  have e : 29 - k = (29 - (k + 1)) + 1 := by omega
  unfold hdK
  rw [List.set_cons_succ, List.set_cons_succ, List.set_append_right _ _ (by omega), hl, Nat.sub_self, e, List.replicate_succ, List.cons_append, List.set_cons_zero]
  rw [List.take_add_one, List.getElem?_eq_getElem hk, Option.toList_some]
  simp only [List.append_assoc, List.singleton_append]
theorem hdK_end (a : List Nat) : (hdK a a.length).map UInt8.ofNat = headL a := by simp [hdK, headL]
theorem hdK_lt (a : List Nat) (h : a.length ≤ 16) (hb : ∀ x ∈ a, x < 256) : ∀ z ∈ hdK a a.length, z < 256 := by
  intro z hz
  simp only [hdK, List.take_length, List.mem_cons, List.mem_append, List.mem_replicate, List.not_mem_nil, or_false] at hz
  rcases hz with rfl | rfl | h1 | ⟨_, rfl⟩ | rfl
  · omega
  · omega
  · exact hb z h1
  · omega
  · omega
theorem hd_start (a : List Nat) : (((List.replicate 32 0).set 0 1).set 1 a.length).set 31 1 = hdK a 0 := rfl
def RHd (ps qs : List PV) : Prop := ∃ a : List Nat, a.length ≤ 16 ∧ (∀ x ∈ a, x < 256) ∧ ps = [pRow encI (ints a)] ∧ qs = [pS (headB a)]
theorem ints_inj {a b : List Nat} (h : ints a = ints b) : a = b := by
  induction a generalizing b with
  | nil => cases b with
    | nil => rfl
    | cons => simp [ints] at h
  | cons x a ih => cases b with
    | nil => simp [ints] at h
    | cons y b =>
      simp only [ints, List.map_cons, List.cons.injEq, Int.ofNat_inj] at h
      rw [h.1, ih h.2]
theorem fHd : ∀ ps q1 q2, RHd ps q1 → RHd ps q2 → q1 = q2 := by
  rintro ps q1 q2 ⟨a, _, _, rfl, rfl⟩ ⟨a', _, _, h, rfl⟩
  simp only [List.cons.injEq, and_true] at h
  rw [ints_inj (symD.pRow_inj encI_inj h)]
theorem cellN (a : List Nat) (k : Nat) (hk : k < a.length) : cellPV (pRow encI (ints a)) (pI (k : Int)) 1 0 = some (pI (a[k] : Int)) := by
  rw [cellI (ints a) k (by simpa using hk)]; simp
theorem cutH : flH = flH.take 4 ++ .block (blockId (nth flH 4)) (.loop (loopBody (nth flH 4))) :: flH.drop 5 := by kernel_rfl
theorem toldHd (k0 : Nat) : ToldF 35 (EHd k0) (spec RHd) := by
  refine told_by (fun _ _ => none) _ (bodyOf Try.prog 35) Try.func35 (by kernel_rfl) shH (by kernel_rfl) ?_ ?_
  · intro ps qs h i hi
    obtain ⟨a, _, _, rfl, rfl⟩ := of_spec h
    simp [shH] at hi
    match i, hi with
    | 0, hi => simp at hi
    | i + 1, hi => simp at hi
  · intro C ps qs hF h a w hsh
    obtain ⟨x, hx, hb, rfl, rfl⟩ := of_spec h
    show wpL Try.prog flH _ a w
    rw [cutH]
    have r0 : ropPV (.rep [.int .u8 0]) [pI 32] = some (pRow encU (List.replicate 32 0)) := r_repU 32
    have u0 : ropPV (.upd 1 0) [pRow encU (List.replicate 32 0), pI 0, pU 1] = some (pRow encU ((List.replicate 32 0).set 0 1)) := r_updE encU (List.replicate 32 0) 0 .i64 1 (by simp)
    have u1 : ropPV (.upd 1 0) [pRow encU ((List.replicate 32 0).set 0 1), pI 1, pU (x.length : Int)] = some (pRow encU (((List.replicate 32 0).set 0 1).set 1 x.length)) := r_updE encU ((List.replicate 32 0).set 0 1) 1 .i64 x.length (by simp)
    have u2 : ropPV (.upd 1 0) [pRow encU (((List.replicate 32 0).set 0 1).set 1 x.length), pI 31, pU 1] = some (pRow encU ((((List.replicate 32 0).set 0 1).set 1 x.length).set 31 1)) := r_updE encU (((List.replicate 32 0).set 0 1).set 1 x.length) 31 .i64 1 (by simp)
    have l0 : (List.replicate 32 0 : List Nat).length = 32 := by simp
    have l1 : ((List.replicate 32 0 : List Nat).set 0 1).length = 32 := by simp
    have l2 : (((List.replicate 32 0 : List Nat).set 0 1).set 1 x.length).length = 32 := by simp
    rw [hd_start] at u2
    have l3 : (hdK x 0).length = 32 := hdK_len x 0 (Nat.zero_le _) hx
    have i0 : IdxP (some (pRow encU (List.replicate 32 0))) (some (pI 0)) 1 1 := idxP_row encU _ 0 1 1 .i64 rfl (by simp) (by decide)
    have i1 : IdxP (some (pRow encU ((List.replicate 32 0).set 0 1))) (some (pI 1)) 1 1 := idxP_row encU _ 1 1 1 .i64 rfl (by simp) (by decide)
    have i2 : IdxP (some (pRow encU (((List.replicate 32 0).set 0 1).set 1 x.length))) (some (pI 31)) 1 1 := idxP_row encU _ 31 1 1 .i64 rfl (by simp) (by decide)
    have wl : IntKind.u8.wrap (x.length : Int) = (x.length : Int) := wrapU _ (by omega) (by omega)
    have hil : (ints x).length = x.length := by simp
    generalize ((List.replicate 32 0).set 0 1).set 1 x.length = R2 at *
    generalize (List.replicate 32 0).set 0 1 = R1 at *
    generalize List.replicate 32 0 = R0 at *
    have next : ∀ a1 w1, InShape C shHl [pRow encI (ints x), pI (x.length : Int), pI 0, pRow encU (hdK x 0)] a1 w1 → wpL Try.prog (.block (blockId (nth flH 4)) (.loop (loopBody (nth flH 4))) :: flH.drop 5) (fun e a' w' => (e = .normal ∨ e = .ret) ∧ ∃ sh' ps' es, InShape C sh' ps' a' w' ∧ resTo Try.prog Try.f35 sh' (EHd k0) = some es ∧ evs (fun i => ps'[i]?) (fun _ _ => none) es = some [pS (headB x)]) a1 w1 := by
      intro a1 w1 h1
      refine block_loop (fun n a w => ∃ k : Nat, k ≤ x.length ∧ n = x.length - k ∧ InShape C shHl [pRow encI (ints x), pI (x.length : Int), pI (k : Int), pRow encU (hdK x k)] a w) ?_ (n := x.length) ⟨0, by omega, by omega, h1⟩
      rintro n a w ⟨k, hk, rfl, hin⟩
      show wpL Try.prog lpH _ a w
      rw [← List.append_nil lpH]
      by_cases hlt : k < x.length
      · have hxk := hb _ (List.getElem_mem hlt)
        have c0 := cellN x k hlt
        have ix : IdxP (some (pRow encI (ints x))) (some (pI (k : Int))) 1 1 := idxP_row encI (ints x) k 1 1 .i64 rfl (by simpa using hlt) (by decide)
        have iy : IdxP (some (pRow encU (hdK x k))) (some (pI (2 + (k : Int)))) 1 1 := by
          have := idxP_row encU (hdK x k) (2 + k) 1 1 .i64 rfl (by rw [hdK_len x k hk hx]; omega) (by decide)
          rwa [Int.natCast_add] at this
        have v3 : IntKind.i64.wrap ((k : Int) + 1) = (k : Int) + 1 := wrapI _ (by omega) (by omega)
        have v2 : IntKind.i64.wrap (2 + (k : Int)) = 2 + (k : Int) := wrapI _ (by omega) (by omega)
        have wx : IntKind.u8.wrap (x[k] : Int) = (x[k] : Int) := wrapU _ (by omega) (by omega)
        have ru : ropPV (.upd 1 0) [pRow encU (hdK x k), pI (2 + (k : Int)), pU (x[k] : Int)] = some (pRow encU (hdK x (k + 1))) := by
          have := r_updE encU (hdK x k) (2 + k) .i64 x[k] (by rw [hdK_len x k hk hx]; omega)
          rw [Int.natCast_add, show 2 + k = k + 1 + 1 by omega, hdK_set x k hlt hx] at this
          exact this
        have h1l := hdK_len x k hk hx
        have h2l := hdK_len x (k + 1) hlt hx
        have again : ∀ qs a1 w1, qs = [pRow encI (ints x), pI (x.length : Int), pI ((k : Int) + 1), pRow encU (hdK x (k + 1))] → InShape C shHl qs a1 w1 → ∃ n', n' < x.length - k ∧ ∃ k' : Nat, k' ≤ x.length ∧ n' = x.length - k' ∧ InShape C shHl [pRow encI (ints x), pI (x.length : Int), pI (k' : Int), pRow encU (hdK x k')] a1 w1 := by
          rintro qs a1 w1 rfl h
          exact ⟨x.length - (k + 1), by omega, k + 1, by omega, rfl, h⟩
        generalize hdK x (k + 1) = y2 at *
        generalize hdK x k = y1 at *
        generalize (x[k] : Int) = xk at *
        refine seg_ok names_ok mixed_ok fil.noOrc_ok hon hin ?_ (fun qs a1 w1 hq h1 => ⟨fun _ => .inl ⟨rfl, again qs a1 w1 (by simp [evs, SX.ev, binPV, convPV, v3, v2, wx, c0, ru] at hq; exact hq.symm) h1⟩, fun h => absurd rfl h⟩)
        simp only [List.mem_cons, List.not_mem_nil, or_false, forall_eq_or_imp, forall_eq]
        simp [holds_idxP, holds_cellsP, Base.ev, SX.ev, evs, Value.oneCell', lenPV_row, binPV, convPV, v3, v2, wx, hlt, ix, iy, c0, ru, h1l, h2l]
        exact ⟨by omega, 32, rfl⟩
      · have hie : k = x.length := by omega
        subst hie
        have hbe : pRow encU (hdK x x.length) = pBy (headL x) := by rw [rowU_by _ (hdK_lt x hx hb), hdK_end]
        rw [hbe] at hin
        have hhl := headL_len (a := x) (by omega)
        have ht : ropPV .toStr [pBy (headL x)] = some (pS (headB x)) := r_toStr (headL x)
        generalize headL x = H at *
        generalize headB x = B at *
        refine seg_ok names_ok mixed_ok fil.noOrc_ok hex hin ?_ ?_
        · simp only [List.mem_cons, List.not_mem_nil, or_false, forall_eq_or_imp, forall_eq]
          simp [holds_idxP, holds_cellsP, Base.ev, SX.ev, evs, Value.oneCell', r_len, binPV]
        · intro qs a1 w1 hq h1
          refine ⟨fun h => (by cases h), fun _ => .inr (.inl ⟨by rw [show blockId (nth flH 4) = 0 by kernel_rfl]; rfl, ?_⟩)⟩
          simp [evs, SX.ev] at hq
          subst hq
          rw [← List.append_nil (flH.drop 5)]
          refine seg_ok names_ok mixed_ok fil.noOrc_ok hpost h1 ?_ (fun qs a1 w1 hq h1 => ⟨fun h => (by cases h), fun _ => ⟨.inr rfl, shHR, _, [SX.var 0], h1, by kernel_rfl, by simp [evs, SX.ev, ht] at hq; subst hq; rfl⟩⟩)
          simp only [List.mem_cons, List.not_mem_nil, or_false, forall_eq_or_imp, forall_eq]
          simp [holds_idxP, holds_cellsP, Base.ev, SX.ev, evs, Value.oneCell', r_len, ht]
    refine seg_ok names_ok mixed_ok fil.noOrc_ok hpre hsh ?_ ?_
    · simp only [List.mem_cons, List.not_mem_nil, or_false, forall_eq_or_imp, forall_eq]
      simp [holds_idxP, holds_cellsP, Base.ev, SX.ev, evs, Value.oneCell', lenPV_row, convPV, hil, r0, u0, u1, u2, l0, l1, l2, l3, i0, i1, i2, wl]
      exact ⟨⟨32, rfl⟩, ⟨32, rfl, by omega⟩, 32, rfl⟩
    intro qs a1 w1 hq h1
    refine ⟨fun _ => next a1 w1 ?_, fun h => absurd rfl h⟩
    simp [evs, SX.ev, lenPV_row, convPV, hil, r0, u0, u1, u2, wl] at hq
    subst hq
    exact h1

/-! What a head lists. -/
theorem bt_lt (b : ByteArray) (i : Nat) : bt b i < 256 := UInt8.toNat_lt _
theorem sidx_bt (b : ByteArray) (i : Nat) (h : i < b.size) : sidxPV (pS b) (pI (i : Int)) = some (pU (bt b i : Int)) := by
  have h0 : (0 : Int) ≤ (i : Int) := by omega
  have h1 : i < b.data.size := h
  simp [sidxPV, bt, h, List.getD, h1]
  rfl
def lsK (b : ByteArray) (n k : Nat) : List Nat := (List.range k).map (fun j => bt b (2 + j)) ++ List.replicate (n - k) 0
theorem lsK_len (b : ByteArray) (n k : Nat) (h : k ≤ n) : (lsK b n k).length = n := by simp [lsK]; omega
theorem lsK_set (b : ByteArray) (n k : Nat) (h : k < n) : (lsK b n k).set k (bt b (2 + k)) = lsK b n (k + 1) := by
  have e : n - k = (n - (k + 1)) + 1 := by omega
  unfold lsK
  rw [e, List.replicate_succ, List.set_append_right _ _ (by simp), List.range_succ]
  simp
def RLs (ps qs : List PV) : Prop := ∃ b : ByteArray, b.size = 32 ∧ ps = [pS b] ∧ qs = [pRow encI (ints (listedB b))]
theorem fLs : ∀ ps q1 q2, RLs ps q1 → RLs ps q2 → q1 = q2 := by
  rintro ps q1 q2 ⟨b, _, rfl, rfl⟩ ⟨b', _, h, rfl⟩
  simp only [List.cons.injEq, PV.v.injEq, Value.string.injEq, and_true] at h
  subst h; rfl
theorem cutLs : flL = flL.take 5 ++ .block (blockId (nth flL 5)) (.loop (loopBody (nth flL 5))) :: flL.drop 6 := by kernel_rfl
theorem toldLs (k0 : Nat) : ToldF 63 (ELs k0) (spec RLs) := by
  refine told_by (fun _ _ => none) _ (bodyOf Try.prog 63) Try.func63 (by kernel_rfl) shL (by kernel_rfl) ?_ ?_
  · intro ps qs h i hi
    obtain ⟨b, _, rfl, rfl⟩ := of_spec h
    simp [shL] at hi
    match i, hi with
    | 0, hi => exact ⟨_, rfl, rfl⟩
    | i + 1, hi => simp at hi
  · intro C ps qs hF h a w hsh
    obtain ⟨b, hb, rfl, rfl⟩ := of_spec h
    have hb' : (b.size : Int) = 32 := by omega
    have s1 : sidxPV (pS b) (pI 1) = some (pU (bt b 1 : Int)) := sidx_bt b 1 (by omega)
    have hlt1 := bt_lt b 1
    show wpL Try.prog flL _ a w
    by_cases hn : 16 < bt b 1
    · have hl : listedB b = [] := by rw [listedB, if_neg (by omega)]
      rw [hl]
      rw [← List.append_nil flL]
      refine seg_ok names_ok mixed_ok fil.noOrc_ok lno hsh ?_ (fun qs a1 w1 hq h1 => ⟨fun h => (by cases h), fun _ => ⟨.inr rfl, shLN, _, [SX.lit 0 []], h1, by kernel_rfl, by simp [evs, SX.ev] at hq; subst hq; rfl⟩⟩)
      simp only [List.mem_cons, List.not_mem_nil, or_false, forall_eq_or_imp, forall_eq]
      simp [holds_idxP, holds_cellsP, Base.ev, SX.ev, evs, Value.oneCell', slenPV, binPV, hb', s1]
      omega
    · have hl : listedB b = (List.range (bt b 1)).map fun k => bt b (2 + k) := by rw [listedB, if_pos ⟨hb, by omega⟩]
      have hl2 : lsK b (bt b 1) (bt b 1) = listedB b := by simp [lsK, hl]
      have hl0 : lsK b (bt b 1) 0 = List.replicate (bt b 1) 0 := by simp [lsK]
      generalize bt b 1 = n at *
      have wn : IntKind.i64.wrap (n : Int) = (n : Int) := wrapI _ (by omega) (by omega)
      have rr : ropPV (.rep [.int .i64 0]) [pI (n : Int)] = some (pRow encI (ints (lsK b n 0))) := by rw [hl0, r_repI]; simp [ints]
      have ll : (ints (lsK b n 0)).length = n := by simp only [ints, List.length_map]; exact lsK_len b n 0 (Nat.zero_le _)
      rw [cutLs]
      have next : ∀ a1 w1, InShape C shLl [pS b, pI (n : Int), pI 0, pRow encI (ints (lsK b n 0))] a1 w1 → wpL Try.prog (.block (blockId (nth flL 5)) (.loop (loopBody (nth flL 5))) :: flL.drop 6) (fun e a' w' => (e = .normal ∨ e = .ret) ∧ ∃ sh' ps' es, InShape C sh' ps' a' w' ∧ resTo Try.prog Try.f63 sh' (ELs k0) = some es ∧ evs (fun i => ps'[i]?) (fun _ _ => none) es = some [pRow encI (ints (listedB b))]) a1 w1 := by
        intro a1 w1 h1
        refine block_loop (fun q a w => ∃ k : Nat, k ≤ n ∧ q = n - k ∧ InShape C shLl [pS b, pI (n : Int), pI (k : Int), pRow encI (ints (lsK b n k))] a w) ?_ (n := n) ⟨0, by omega, by omega, h1⟩
        rintro q a w ⟨k, hk, rfl, hin⟩
        show wpL Try.prog lpL _ a w
        rw [← List.append_nil lpL]
        by_cases hlt : k < n
        · have s2 : sidxPV (pS b) (pI (2 + (k : Int))) = some (pU (bt b (2 + k) : Int)) := by
            have := sidx_bt b (2 + k) (by omega)
            rwa [Int.natCast_add] at this
          have hlt2 := bt_lt b (2 + k)
          have v3 : IntKind.i64.wrap ((k : Int) + 1) = (k : Int) + 1 := wrapI _ (by omega) (by omega)
          have v2 : IntKind.i64.wrap (2 + (k : Int)) = 2 + (k : Int) := wrapI _ (by omega) (by omega)
          have wx : IntKind.i64.wrap (bt b (2 + k) : Int) = (bt b (2 + k) : Int) := wrapI _ (by omega) (by omega)
          have h1l : (ints (lsK b n k)).length = n := by simp only [ints, List.length_map]; exact lsK_len b n k hk
          have h2l : (ints (lsK b n (k + 1))).length = n := by simp only [ints, List.length_map]; exact lsK_len b n (k + 1) hlt
          have ru : ropPV (.upd 1 0) [pRow encI (ints (lsK b n k)), pI (k : Int), pI (bt b (2 + k) : Int)] = some (pRow encI (ints (lsK b n (k + 1)))) := by
            have := r_updE encI (ints (lsK b n k)) k .i64 (bt b (2 + k) : Int) (by omega)
            have e : (ints (lsK b n k)).set k (bt b (2 + k) : Int) = ints (lsK b n (k + 1)) := by
              rw [← lsK_set b n k hlt]; simp [ints, List.map_set]
            rw [e] at this
            exact this
          have iy : IdxP (some (pRow encI (ints (lsK b n k)))) (some (pI (k : Int))) 1 1 := idxP_row encI _ k 1 1 .i64 rfl (by omega) (by decide)
          have again : ∀ qs a1 w1, qs = [pS b, pI (n : Int), pI ((k : Int) + 1), pRow encI (ints (lsK b n (k + 1)))] → InShape C shLl qs a1 w1 → ∃ n', n' < n - k ∧ ∃ k' : Nat, k' ≤ n ∧ n' = n - k' ∧ InShape C shLl [pS b, pI (n : Int), pI (k' : Int), pRow encI (ints (lsK b n k'))] a1 w1 := by
            rintro qs a1 w1 rfl h
            exact ⟨n - (k + 1), by omega, k + 1, by omega, rfl, h⟩
          generalize ints (lsK b n (k + 1)) = y2 at *
          generalize ints (lsK b n k) = y1 at *
          generalize (bt b (2 + k) : Int) = xk at *
          refine seg_ok names_ok mixed_ok fil.noOrc_ok lon hin ?_ (fun qs a1 w1 hq h1 => ⟨fun _ => .inl ⟨rfl, again qs a1 w1 (by simp [evs, SX.ev, binPV, convPV, v3, v2, wx, s2, ru] at hq; exact hq.symm) h1⟩, fun h => absurd rfl h⟩)
          simp only [List.mem_cons, List.not_mem_nil, or_false, forall_eq_or_imp, forall_eq]
          simp [holds_idxP, holds_cellsP, Base.ev, SX.ev, evs, Value.oneCell', lenPV_row, binPV, convPV, v3, v2, wx, hlt, iy, s2, ru, h1l, h2l]
        · have hie : k = n := by omega
          subst hie
          rw [hl2] at hin
          generalize ints (listedB b) = y at *
          refine seg_ok names_ok mixed_ok fil.noOrc_ok lex hin ?_ ?_
          · simp only [List.mem_cons, List.not_mem_nil, or_false, forall_eq_or_imp, forall_eq]
            simp [holds_idxP, holds_cellsP, Base.ev, SX.ev, evs, Value.oneCell', lenPV_row, binPV]
          · intro qs a1 w1 hq h1
            refine ⟨fun h => (by cases h), fun _ => .inr (.inl ⟨by rw [show blockId (nth flL 5) = 0 by kernel_rfl]; rfl, ?_⟩)⟩
            simp [evs, SX.ev] at hq
            subst hq
            rw [← List.append_nil (flL.drop 6)]
            refine seg_ok names_ok mixed_ok fil.noOrc_ok lpost h1 ?_ (fun qs a1 w1 hq h1 => ⟨fun h => (by cases h), fun _ => ⟨.inr rfl, shLR, _, [SX.var 0], h1, by kernel_rfl, by simp [evs, SX.ev] at hq; subst hq; rfl⟩⟩)
            simp only [List.mem_cons, List.not_mem_nil, or_false, forall_eq_or_imp, forall_eq]
            simp [holds_idxP, holds_cellsP, Base.ev, SX.ev, evs, Value.oneCell', lenPV_row]
      generalize ints (lsK b n 0) = y0 at *
      refine seg_ok names_ok mixed_ok fil.noOrc_ok lpre hsh ?_ ?_
      · simp only [List.mem_cons, List.not_mem_nil, or_false, forall_eq_or_imp, forall_eq]
        simp [holds_idxP, holds_cellsP, Base.ev, SX.ev, evs, Value.oneCell', slenPV, lenPV_row, binPV, convPV, hb', s1, wn, rr, ll]
        omega
      intro qs a1 w1 hq h1
      refine ⟨fun _ => next a1 w1 ?_, fun h => absurd rfl h⟩
      simp [evs, SX.ev, convPV, lenPV_row, s1, wn, rr, ll] at hq
      subst hq
      exact h1

/-! A sector read that there is. -/
def RMr (ps qs : List PV) : Prop := ∃ (d : D) (i : Int), d.ok ∧ hasB d i = true ∧ ps = pD d ++ [pI i] ∧ qs = [pS (latest d i.toNat)]
theorem fMr : ∀ ps q1 q2, RMr ps q1 → RMr ps q2 → q1 = q2 := by
  rintro ps q1 q2 ⟨d, i, _, _, rfl, rfl⟩ ⟨d', i', _, _, h, rfl⟩
  obtain ⟨rfl, hx⟩ := pD_app h
  simp only [List.cons.injEq, PV.v.injEq, Value.int.injEq, true_and, and_true] at hx
  subst hx; rfl
theorem toldMr (hR : ∀ k, ToldF 84 (ERead k) (spec RRead)) (k : Nat) : ToldF 62 (EMr k) (spec RMr) := by
  refine told_of mixed_ok names_ok (fun k => match k with | 1 => spec RRead | _ => fun _ => none) [.row, .row, .num, .num, .num] ?_
  intro ps qs h _
  obtain ⟨⟨ls, ws, arm, dn⟩, i, ok, hi, rfl, rfl⟩ := of_spec h
  have e1 : spec RRead [pRow encS ls, pRow encP ws, pI (arm : Int), pB dn, pI i] = some [pS (latest ⟨ls, ws, arm, dn⟩ i.toNat), pB true] := spec_of fRead ⟨⟨ls, ws, arm, dn⟩, i, ok, rfl, by rw [readD, if_pos hi]⟩
  have t1 : ToldF 84 (ERead 1) (spec RRead) := hR 1
  simp only [pD, List.cons_append, List.nil_append]
  refine ⟨_, _, _, _, _, _, orcFn_ok tabM, mr1, fun w FP => ?_, ?_⟩
  · simp only [List.mem_cons, List.not_mem_nil, or_false, forall_eq_or_imp, forall_eq]
    simp [holds_idxP, holds_cellsP, Base.ev, SX.ev, evs, Value.oneCell', e1, t1]
  · simp [evs, SX.ev, e1]

/-! Copies. -/
def cpK (h : Nat) (l : List (Nat × ByteArray)) (k : Nat) : List (Nat × ByteArray) := copiesF (h + 1) (l.take k) ++ l.drop k
theorem cpK_len (h : Nat) (l : List (Nat × ByteArray)) (k : Nat) (hk : k ≤ l.length) : (cpK h l k).length = l.length := by simp [cpK, copies_len]; omega
theorem copies_app : ∀ (l m : List (Nat × ByteArray)) (h : Nat), copiesF h (l ++ m) = copiesF h l ++ copiesF (h + l.length) m
  | [], m, h => by simp [copiesF]
  | p :: l, m, h => by
    simp only [List.cons_append, copiesF, copies_app l m (h + 1), List.length_cons]
    rw [show h + 1 + l.length = h + (l.length + 1) by omega]
theorem cpK_get (h : Nat) (l : List (Nat × ByteArray)) (k : Nat) (hk : k < l.length) : (cpK h l k)[k]? = some l[k] := by
  have hl : (copiesF (h + 1) (l.take k)).length = k := by rw [copies_len, List.length_take]; omega
  rw [cpK, List.getElem?_append_right (by omega), hl, Nat.sub_self, List.getElem?_drop]
  simp [hk]
theorem cpK_set (h : Nat) (l : List (Nat × ByteArray)) (k : Nat) (hk : k < l.length) : (cpK h l k).set k (h + 1 + k, l[k].2) = cpK h l (k + 1) := by
  have hl : (copiesF (h + 1) (l.take k)).length = k := by rw [copies_len, List.length_take]; omega
  have hlt : (l.take k).length = k := by rw [List.length_take]; omega
  unfold cpK
  rw [List.set_append_right _ _ (by omega), hl, Nat.sub_self, List.drop_eq_getElem_cons hk, List.set_cons_zero]
  rw [List.take_add_one, List.getElem?_eq_getElem hk, Option.toList_some, copies_app, hlt]
  simp [copiesF]
theorem r_updP (xs : List (Nat × ByteArray)) (k : Nat) (z : Nat) (y : Nat × ByteArray) (h : xs[k]? = some y) : ropPV (.upd 2 0) [pRow encP xs, pI (k : Int), pI (z : Int)] = some (pRow encP (xs.set k (z, y.2))) := by
  have hk : k < xs.length := (List.getElem?_eq_some_iff.1 h).1
  have hy : xs[k] = y := (List.getElem?_eq_some_iff.1 h).2
  have h0 : (0 : Int) ≤ (k : Int) := by omega
  have h1 : (k : Int) < (xs.length : Int) := by omega
  have hl : (encP.all (xs.take k)).length = k * 2 := by rw [all_len, List.length_take, Nat.min_eq_left (by omega)]; rfl
  have hp : putPV ((encP.all xs).map PV.v) (k * 2) [pI (z : Int)] = (encP.all (xs.set k (z, y.2))).map PV.v := by
    rw [set_split xs k _ hk, Enc.all_append, Enc.all_cons, all_split' encP xs k hk, hy]
    simp only [putPV, encP, List.map_append, List.map_cons, List.map_nil, List.length_cons, List.length_nil, List.cons_append, List.nil_append]
    rw [List.take_left' (by simpa [encP] using hl)]
    have : k * 2 + (0 + 1) = ((encP.all (xs.take k)).map PV.v).length + 1 := by simp [hl]
    rw [show (encP.all (xs.take k)) = Enc.all encP (xs.take k) from rfl] at this
    simp only [encP] at this
    rw [this, List.drop_append]
    simp
  simp [ropPV, pRow, h1, hp]
def RCp (ps qs : List PV) : Prop := ∃ (home : Nat) (l : List (Nat × ByteArray)), home ≤ 1000 ∧ 1 ≤ l.length ∧ l.length ≤ 16 ∧ ps = [pI (home : Int), pRow encP l] ∧ qs = [pRow encP (copiesF (home + 1) l)]
theorem fCp : ∀ ps q1 q2, RCp ps q1 → RCp ps q2 → q1 = q2 := by
  rintro ps q1 q2 ⟨h, l, _, _, _, rfl, rfl⟩ ⟨h', l', _, _, _, hx, rfl⟩
  simp only [List.cons.injEq, PV.v.injEq, Value.int.injEq, true_and, and_true, Int.ofNat_inj] at hx
  rw [hx.1, symD.pRow_inj encP_inj hx.2]
theorem cutCp : flC = flC.take 3 ++ .block (blockId (nth flC 3)) (.loop (loopBody (nth flC 3))) :: flC.drop 4 := by kernel_rfl
theorem r_repP (n : Nat) : ∃ cs, ropPV (.rep [.int .i64 0, .string ⟨#[]⟩]) [pI (n : Int)] = some (.row n cs) := by
  have h : (0 : Int) ≤ (n : Int) := by omega
  simp [ropPV, h]
theorem toldCp (k0 : Nat) : ToldF 34 (ECp k0) (spec RCp) := by
  refine told_by (fun _ _ => none) _ (bodyOf Try.prog 34) Try.func34 (by kernel_rfl) shC (by kernel_rfl) ?_ ?_
  · intro ps qs h i hi
    obtain ⟨home, l, _, _, _, rfl, rfl⟩ := of_spec h
    simp [shC] at hi
    match i, hi with
    | 0, hi => exact ⟨_, rfl, rfl⟩
    | 1, hi => simp at hi
    | i + 2, hi => simp at hi
  · intro C ps qs hF h a w hsh
    obtain ⟨home, l, hh, hl1, hl2, rfl, rfl⟩ := of_spec h
    show wpL Try.prog flC _ a w
    rw [cutCp]
    have cl := cellsP_row encP l 2 rfl (by omega)
    have rc := r_cat0 encP l
    have wl : IntKind.i64.wrap (l.length : Int) = (l.length : Int) := wrapI _ (by omega) (by omega)
    obtain ⟨cs, rr⟩ := r_repP l.length
    have h0 : cpK home l 0 = l := by simp [cpK, copiesF]
    refine seg_ok names_ok mixed_ok fil.noOrc_ok cpre hsh ?_ ?_
    · simp only [List.mem_cons, List.not_mem_nil, or_false, forall_eq_or_imp, forall_eq]
      simp [holds_idxP, holds_cellsP, Base.ev, SX.ev, evs, Value.oneCell', lenPV_row, lenPV_r, binPV, wl, rr, rc, cl]
      omega
    intro qs a1 w1 hq h1
    refine ⟨fun _ => ?_, fun h => absurd rfl h⟩
    simp [evs, SX.ev, lenPV_row, rc] at hq
    subst hq
    rw [← h0] at h1
    rw [cpK_len home l 0 (Nat.zero_le _)] at h1
    refine block_loop (fun q a w => ∃ k : Nat, k ≤ l.length ∧ q = l.length - k ∧ InShape C shCl [pI (home : Int), pI (l.length : Int), pI (k : Int), pRow encP (cpK home l k)] a w) ?_ (n := l.length) ⟨0, by omega, by omega, h1⟩
    rintro q a w ⟨k, hk, rfl, hin⟩
    show wpL Try.prog lpC _ a w
    rw [← List.append_nil lpC]
    by_cases hlt : k < l.length
    · have h1l := cpK_len home l k hk
      have h2l := cpK_len home l (k + 1) hlt
      have v3 : IntKind.i64.wrap ((k : Int) + 1) = (k : Int) + 1 := wrapI _ (by omega) (by omega)
      have v1 : IntKind.i64.wrap ((home : Int) + 1) = (home : Int) + 1 := wrapI _ (by omega) (by omega)
      have v2 : IntKind.i64.wrap ((home : Int) + 1 + (k : Int)) = (home : Int) + 1 + (k : Int) := wrapI _ (by omega) (by omega)
      have iy : IdxP (some (pRow encP (cpK home l k))) (some (pI (k : Int))) 2 1 := idxP_row encP _ k 2 1 .i64 rfl (by omega) (by decide)
      have ru : ropPV (.upd 2 0) [pRow encP (cpK home l k), pI (k : Int), pI ((home : Int) + 1 + (k : Int))] = some (pRow encP (cpK home l (k + 1))) := by
        have := r_updP (cpK home l k) k (home + 1 + k) l[k] (cpK_get home l k hlt)
        rw [cpK_set home l k hlt] at this
        simpa using this
      have again : ∀ qs a1 w1, qs = [pI (home : Int), pI (l.length : Int), pI ((k : Int) + 1), pRow encP (cpK home l (k + 1))] → InShape C shCl qs a1 w1 → ∃ n', n' < l.length - k ∧ ∃ k' : Nat, k' ≤ l.length ∧ n' = l.length - k' ∧ InShape C shCl [pI (home : Int), pI (l.length : Int), pI (k' : Int), pRow encP (cpK home l k')] a1 w1 := by
        rintro qs a1 w1 rfl h
        exact ⟨l.length - (k + 1), by omega, k + 1, by omega, rfl, h⟩
      generalize cpK home l (k + 1) = y2 at *
      generalize cpK home l k = y1 at *
      refine seg_ok names_ok mixed_ok fil.noOrc_ok con' hin ?_ (fun qs a1 w1 hq h1 => ⟨fun _ => .inl ⟨rfl, again qs a1 w1 (by simp [evs, SX.ev, binPV, v3, v1, v2, ru] at hq; exact hq.symm) h1⟩, fun h => absurd rfl h⟩)
      simp only [List.mem_cons, List.not_mem_nil, or_false, forall_eq_or_imp, forall_eq]
      simp [holds_idxP, holds_cellsP, Base.ev, SX.ev, evs, Value.oneCell', lenPV_row, binPV, v3, v1, v2, hlt, iy, ru, h1l, h2l]
    · have hie : k = l.length := by omega
      subst hie
      have he : cpK home l l.length = copiesF (home + 1) l := by simp [cpK]
      rw [he] at hin
      generalize copiesF (home + 1) l = y at *
      refine seg_ok names_ok mixed_ok fil.noOrc_ok cex hin ?_ ?_
      · simp only [List.mem_cons, List.not_mem_nil, or_false, forall_eq_or_imp, forall_eq]
        simp [holds_idxP, holds_cellsP, Base.ev, SX.ev, evs, Value.oneCell', lenPV_row, binPV]
      · intro qs a1 w1 hq h1
        refine ⟨fun h => (by cases h), fun _ => .inr (.inl ⟨by rw [show blockId (nth flC 3) = 0 by kernel_rfl]; rfl, ?_⟩)⟩
        simp [evs, SX.ev] at hq
        subst hq
        rw [← List.append_nil (flC.drop 4)]
        refine seg_ok names_ok mixed_ok fil.noOrc_ok cpost h1 ?_ (fun qs a1 w1 hq h1 => ⟨fun h => (by cases h), fun _ => ⟨.inr rfl, shCR, _, [SX.var 0], h1, by kernel_rfl, by simp [evs, SX.ev] at hq; subst hq; rfl⟩⟩)
        simp only [List.mem_cons, List.not_mem_nil, or_false, forall_eq_or_imp, forall_eq]
        simp [holds_idxP, holds_cellsP, Base.ev, SX.ev, evs, Value.oneCell', lenPV_row]
end Go.Proofs.Ytegfdigljpnhcaa.jhd
