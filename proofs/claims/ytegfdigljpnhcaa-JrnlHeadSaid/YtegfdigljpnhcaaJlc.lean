/- What the laws of the journal call: told, at one place. -/
import Derived.Test.YtegfdigljpnhcaaJlb
import Derived.Test.YtegfdigljpnhcaaJmv
import Derived.Test.YtegfdigljpnhcaaSymD
import Derived.Test.YtegfdigljpnhcaaFrameB
namespace Go.Proofs.Ytegfdigljpnhcaa.jlc
open Go Go.RowKit eng SX Fact dsk jlb
open jhd
open jco (EMd ECm RMd RCm fMd fCm toldMd toldCm)
open jmt hiding Pt Calm
open fil
open rdk hiding dbox
open symD hiding pRow_inj
set_option linter.unusedVariables false
set_option linter.unusedSimpArgs false
set_option maxRecDepth 1000000

def EMn (k : Nat) : FnE := { k := k, ins := [some 4, none], leaks := [], outs := [some 4, none], kinds := [.row, .row, .num, .num, .num] }
def tabT (f : FuncId) : Option FnE := cond (Nat.beq f 12) (some (ENew 1)) (cond (Nat.beq f 14) (some (ERead 2)) (cond (Nat.beq f 15) (some (ECrashR 3)) (cond (Nat.beq f 17) (some (ESame2 4)) (cond (Nat.beq f 10) (some (ETrue 5)) (cond (Nat.beq f 13) (some (EPt 6)) (cond (Nat.beq f 11) (some (ECm 7)) (cond (Nat.beq f 16) (some (EMn 8)) none)))))))
theorem ranB : isTrue ((theEng Try.prog orcD 100000).call 10 [] ⟨.nil, 0, []⟩) = true := by kernel_rfl
noncomputable def G : Fns := fun k => match k with | 1 => spec RNew | 2 => spec RRead | 3 => spec RCrash | 4 => spec RST2 | 5 => spec RTrue | 6 => spec RPt | 7 => spec RCm | 8 => spec RMd | _ => fun _ => none
theorem u1 : ToldF 12 (ENew 1) (G 1) := rdk.toldNew 1
theorem u2 : ToldF 14 (ERead 2) (G 2) := rdk.toldRead 2
theorem u3 : ToldF 15 (ECrashR 3) (G 3) := rdk.toldCrash 3
theorem u5 : ToldF 10 (ETrue 5) (G 5) := told_closed 5 fun w => calls_true eng.names_ok eng.mixed_ok orcD_ok (args := []) ranB w
theorem u6 : ToldF 13 (EPt 6) (G 6) := toldPt 6
theorem u7 : ToldF 11 (ECm 7) (G 7) := toldCm symD.toldWrite symD.toldFlush 7
theorem u8d : ToldF 16 (EMd 8) (G 8) := toldMd symD.toldRead symD.toldWrite symD.toldFlush 8
theorem u8 : ToldF 16 (EMn 8) (G 8) := told_kinds u8d rfl rfl rfl rfl rfl
@[simp] theorem kN (k : Nat) : (ENew k).k = k := rfl
@[simp] theorem kR (k : Nat) : (ERead k).k = k := rfl
@[simp] theorem kC (k : Nat) : (ECrashR k).k = k := rfl
@[simp] theorem kS (k : Nat) : (ESame2 k).k = k := rfl
@[simp] theorem kT (k : Nat) : (ETrue k).k = k := rfl
@[simp] theorem kCm (k : Nat) : (ECm k).k = k := rfl
@[simp] theorem kMd (k : Nat) : (EMd k).k = k := rfl
@[simp] theorem kMn (k : Nat) : (EMn k).k = k := rfl
def L0 : List ByteArray := List.replicate 17 noughts
theorem calm0 : jmt.Calm L0 := new_calm
theorem G1 : G 1 [pI 17] = some [pRow encS L0, pRow encP [], pI 0, pB false] := spec_of fNew ⟨17, rfl, rfl⟩
theorem G2 {L : List ByteArray} {a i : Nat} (hc : jmt.Calm L) (ha : a ≤ 1000) (hi : i < 17) : G 2 [pRow encS L, pRow encP [], pI (a : Int), pB false, pI (i : Int)] = some [pS (L.getD i e0), pB true] :=
  spec_of fRead ⟨dk L a, i, ok_dk hc ha, rfl, by rw [read_dk hc hi]⟩
theorem G3 {d d' : D} {keep : List Int} (ok : d.ok) (h : crashD d keep = d') : G 3 [pRow encS d.last, pRow encP d.wait, pI (d.arm : Int), pB d.down, pRow encI keep] = some [pRow encS d'.last, pRow encP d'.wait, pI (d'.arm : Int), pB d'.down] :=
  spec_of fCrash ⟨d, keep, ok, rfl, by rw [h]; rfl⟩
theorem G4 {xs ys : List ByteArray} (hx : xs.length ≤ 1000000) (hy : ys.length ≤ 1000000) : G 4 [pRow encS xs, pRow encS ys] = some [pB (decide (xs = ys))] := spec_of fST2 ⟨xs, ys, hx, hy, rfl, rfl⟩
theorem G5 : G 5 [] = some [pB true] := spec_of fTrue ⟨rfl, rfl⟩
theorem G6 {zs : List Nat} (h : zs.length = 8) (hb : ∀ z ∈ zs, z < 256) : G 6 [pRow jhd.encU zs, pI 8] = some [pRow encP (putsF SEC 0 zs)] := spec_of fPt ⟨zs, h, hb, rfl, rfl⟩
theorem puts_of {zs : List Nat} (h : zs.length = 8) : putsF SEC 0 zs = [] ∨ Puts (putsF SEC 0 zs) := puts_ok SEC_size zs h
theorem G7 {L : List ByteArray} {a : Nat} {p : List jmt.Pt} {d : D} {b : Bool} (hc : jmt.Calm L) (ha : a ≤ 1000) (hp : p = [] ∨ Puts p) (h : commitD (dk L a) 8 p = (d, b)) : G 7 [pRow encS L, pRow encP [], pI (a : Int), pB false, pI 8, pRow encP p] = some [pRow encS d.last, pRow encP d.wait, pI (d.arm : Int), pB d.down, pB b] :=
  spec_of fCm ⟨L, a, p, hc, ha, hp, rfl, by rw [h]; rfl⟩
theorem G8 {L : List ByteArray} {a : Nat} {d : D} {b : Bool} (hc : jmt.Calm L) (ha : a ≤ 1000) (h : mendD (dk L a) 8 = (d, b)) : G 8 [pRow encS L, pRow encP [], pI (a : Int), pB false, pI 8] = some [pRow encS d.last, pRow encP d.wait, pI (d.arm : Int), pB d.down, pB b] :=
  spec_of fMd ⟨L, a, hc, ha, rfl, by rw [h]; rfl⟩
theorem G8f {L : List ByteArray} (hc : jmt.Calm L) : G 8 [pRow encS L, pRow encP [], pI 0, pB false, pI 8] = some [pRow encS (mended L), pRow encP [], pI 0, pB false, pB (named L 8).isSome] := G8 (a := 0) hc (by omega) (mend_full hc)
theorem G20 {L : List ByteArray} {i : Nat} (hc : jmt.Calm L) (hi : i < 17) : G 2 [pRow encS L, pRow encP [], pI 0, pB false, pI (i : Int)] = some [pS (L.getD i e0), pB true] := G2 (a := 0) hc (by omega) hi
theorem len8 {α : Type} {l : List α} (h : l.length = 8) : ∃ a b c d e f g i, l = [a, b, c, d, e, f, g, i] := by
  match l, h with
  | [a, b, c, d, e, f, g, i], _ => exact ⟨a, b, c, d, e, f, g, i, rfl⟩
abbrev lu (l : List Nat) : List PV := l.map fun (z : Nat) => pU (z : Int)
theorem row8 (a b c d e f g i : Nat) : (PV.row 8 [pU (a : Int), pU (b : Int), pU (c : Int), pU (d : Int), pU (e : Int), pU (f : Int), pU (g : Int), pU (i : Int)]) = pRow jhd.encU [a, b, c, d, e, f, g, i] := rfl
theorem nats8 {z : List Int} (n : z.length = 8) (w : ∀ x ∈ z, (Lit.int .u8 x).wf = true) : ∃ l : List Nat, l.length = 8 ∧ (∀ x ∈ l, x < 256) ∧ z = l.map fun (x : Nat) => (x : Int) := by
  have hb : ∀ x ∈ z, 0 ≤ x ∧ x < 256 := fun x hx => by
    have := bounds_u8 (w x hx)
    omega
  refine ⟨z.map Int.toNat, by simpa using n, fun x hx => ?_, ?_⟩
  · obtain ⟨y, hy, rfl⟩ := List.mem_map.1 hx
    have := hb y hy
    omega
  · rw [List.map_map]
    apply List.ext_getElem (by simp)
    intro i h1 h2
    have := hb z[i] (List.getElem_mem h1)
    simp
    omega
def hL (f : FuncId) (o : Oper) : Option Hint := match o.op with | .binOp .. => none | .unOp .. => none | _ => some .lazy
end Go.Proofs.Ytegfdigljpnhcaa.jlc
