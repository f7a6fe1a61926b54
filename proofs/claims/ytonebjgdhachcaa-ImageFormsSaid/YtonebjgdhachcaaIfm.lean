/- ImageForms by the symbolic engine. -/
import Derived.Test.YtonebjgdhachcaaIlw
namespace Go.Proofs.Ytonebjgdhachcaa.imageForms
open Go Go.RowKit eng SX Fact fil ima symD sta ise idf ieq irs iti ipd ilw
open dirs (encF cellF FileM)
open fileFronts (Zae rowU)
open pck hiding F F20 F21
set_option linter.unusedVariables false
set_option linter.unusedSimpArgs false
set_option maxRecDepth 1000000

def tabA (f : FuncId) : Option FnE := cond (Nat.beq f 28) (some (ETrue 7)) (cond (Nat.beq f 14) (some (EOpen 8)) (cond (Nat.beq f 16) (some (Zew 9)) (tabB f)))
noncomputable def flA := flat (Zaq Try.prog 5)
noncomputable def lpA := flat (Zal (nth flA 5))
def sh0 : Shape := ⟨[], [], [], 95, 5⟩
def shL : Shape := ⟨[(1, .leaf), (2, .leaf)], [], [some false, none], 95, 5⟩
def shM : Shape := ⟨[(1, .leaf), (5, .leaf)], [], [some false, some false], 95, 5⟩
def shE : Shape := ⟨[(0, .leaf)], [], [none], 95, 5⟩
@[simp] def zIfm1 : List SX := [.fn 8 [.fn 4 [] 0, .fn 4 [] 1, .fn 4 [] 2, .con (.int .i64 2), .con (.int .i64 258), .con (.string { data := { toList := [UInt8.ofNat 97, UInt8.ofNat 98] } })] 0, .fn 8 [.fn 4 [] 0, .fn 4 [] 1, .fn 4 [] 2, .con (.int .i64 2), .con (.int .i64 258), .con (.string { data := { toList := [UInt8.ofNat 97, UInt8.ofNat 98] } })] 1, .fn 8 [.fn 4 [] 0, .fn 4 [] 1, .fn 4 [] 2, .con (.int .i64 2), .con (.int .i64 258), .con (.string { data := { toList := [UInt8.ofNat 97, UInt8.ofNat 98] } })] 2, .con (.int .i64 2), .con (.int .i64 259), .con (.int .i64 1), .lit 1 [.con (.int .i64 0), .con (.string { data := { toList := [UInt8.ofNat 120, UInt8.ofNat 121, UInt8.ofNat 122] } })]]
@[simp] def zIfm2 : List SX := [.fn 4 [] 0, .fn 4 [] 1, .fn 4 [] 2, .con (.int .i64 2), .con (.int .i64 258), .con (.string { data := { toList := [UInt8.ofNat 97, UInt8.ofNat 98] } })]
@[simp] def zIfm3 : SX := .bin .neq (.cell (.var 0) (.var 1) 1 0) (.con (.string { data := { toList := [UInt8.ofNat 0, UInt8.ofNat 0, UInt8.ofNat 0, UInt8.ofNat 0, UInt8.ofNat 0, UInt8.ofNat 0, UInt8.ofNat 0, UInt8.ofNat 0, UInt8.ofNat 0, UInt8.ofNat 0, UInt8.ofNat 0, UInt8.ofNat 0, UInt8.ofNat 0, UInt8.ofNat 0, UInt8.ofNat 0, UInt8.ofNat 0, UInt8.ofNat 0, UInt8.ofNat 0, UInt8.ofNat 0, UInt8.ofNat 0, UInt8.ofNat 0, UInt8.ofNat 0, UInt8.ofNat 0, UInt8.ofNat 0, UInt8.ofNat 0, UInt8.ofNat 0, UInt8.ofNat 0, UInt8.ofNat 0, UInt8.ofNat 0, UInt8.ofNat 0, UInt8.ofNat 0, UInt8.ofNat 0] } }))
@[simp] def zIfm4 : SX := .cell (.var 1) (.con (.int .i64 0)) 1 0
@[simp] def zIfm5 : SX := .cell (.var 1) (.con (.int .i64 1)) 1 0
@[simp] def zIfm6 : SX := .bin .eql (.op (Op.slice 9 (Operand.tmp 68) (some (Operand.const (.int .i64 14))) (some (Operand.const (.int .i64 24))) none) 9 [68] [zIfm4]) (.con (.string { data := { toList := [UInt8.ofNat 0, UInt8.ofNat 0, UInt8.ofNat 1, UInt8.ofNat 3, UInt8.ofNat 0, UInt8.ofNat 1, UInt8.ofNat 0, UInt8.ofNat 0, UInt8.ofNat 0, UInt8.ofNat 2] } }))
@[simp] def zIfm7 : SX := .bin .eql (.op (Op.slice 9 (Operand.tmp 82) (some (Operand.const (.int .i64 11))) (some (Operand.const (.int .i64 19))) none) 9 [82] [zIfm5]) (.con (.string { data := { toList := [UInt8.ofNat 0, UInt8.ofNat 0, UInt8.ofNat 0, UInt8.ofNat 2, UInt8.ofNat 3, UInt8.ofNat 120, UInt8.ofNat 121, UInt8.ofNat 122] } }))
@[simp] def zIfm8 : SX := .op (Op.slice 9 (Operand.tmp 75) (some (Operand.const (.int .i64 2))) (some (Operand.const (.int .i64 6))) none) 9 [75] [zIfm5]
@[simp] def zIfm9 : SX := .bin .eql (.op (Op.slice 9 (Operand.tmp 62) none (some (Operand.const (.int .i64 4))) none) 9 [62] [zIfm4]) (.con (.string { data := { toList := [UInt8.ofNat 0, UInt8.ofNat 0, UInt8.ofNat 0, UInt8.ofNat 7] } }))
@[simp] def Zll : Fact := .idx (.var 1) (.con (.int .i64 0)) 1 1
@[simp] def Zlk : Fact := .idx (.var 1) (.con (.int .i64 1)) 1 1
@[simp] def zIfm12 : SX := .bin .eql zIfm8 (.con (.string { data := { toList := [UInt8.ofNat 2, UInt8.ofNat 97, UInt8.ofNat 98, UInt8.ofNat 0] } }))
@[simp] def Zi7 : SX := .con (.int .i64 2)
@[simp] def Zqh : SX := .bin .lss (.var 1) (.len (.var 0))
@[simp] def Zr7 : SX := .bin .add (.var 1) (.con (.int .i64 1))
@[simp] def zIfm16 : SX := .bin .eql (.cell (.var 1) Zi7 1 0) (.cell (.var 0) Zi7 1 0)
theorem pre : segTo Try.prog (orcFn tabA) 10000 (flA.take 5) sh0 [1] shL [] = some (.normal, [.fn 28 (ETrue 7) [], .is (.fn 7 [] 0) (.bool true), .fn 27 (ENew 4) [], .ok (.fn 4 [] 2), .fn 29 (EPuI 1) [.fn 4 [] 0, .fn 4 [] 1, .fn 4 [] 2], .ok (.con (.int .i64 0))], [.fn 1 [.fn 4 [] 0, .fn 4 [] 1, .fn 4 [] 2] 0, .con (.int .i64 0)]) := by kernel_rfl
theorem lx : segTo Try.prog (orcFn tabA) 10000 lpA shL [0] shL [] = some (.exit 0, [.ok (.len (.var 0)), .ok Zqh, .is Zqh (.bool false), .ok (.var 1)], [.var 0, .var 1]) := by kernel_rfl
theorem ln : segTo Try.prog (orcFn tabA) 10000 lpA shL [1, 0] shL [] = some (.normal, [.ok (.len (.var 0)), .ok Zqh, .is Zqh (.bool true), .idx (.var 0) (.var 1) 1 1, .idx (.var 0) (.var 1) 1 1, .ok (.cell (.var 0) (.var 1) 1 0), .ok zIfm3, .is zIfm3 (.bool false), .ok Zr7, .ok Zr7], [.var 0, Zr7]) := by kernel_rfl
theorem mid : segTo Try.prog (orcFn tabA) 10000 ((flA.drop 6).take 4) shL [] shM [] = some (.normal, [.fn 27 (ENew 4) [], .ok (.fn 4 [] 2), .fn 14 (EOpen 8) zIfm2, .ok (.fn 8 zIfm2 2), .ok (.fn 8 zIfm2 3), .ok (.fn 8 zIfm2 4), .ok (.fn 8 zIfm2 5), .ok (.fn 8 zIfm2 6), .fn 16 (Zew 9) zIfm1, .ok (.fn 9 zIfm1 2), .ok (.fn 9 zIfm1 3), .ok (.fn 9 zIfm1 4), .ok (.fn 9 zIfm1 5), .ok (.fn 9 zIfm1 6), .fn 29 (EPuI 1) [.fn 9 zIfm1 0, .fn 9 zIfm1 1, .con (.int .i64 7)]], [.var 0, .fn 1 [.fn 9 zIfm1 0, .fn 9 zIfm1 1, .con (.int .i64 7)] 0]) := by kernel_rfl
theorem pst : segTo Try.prog (orcFn tabA) 10000 (flA.drop 10) shM [0, 0, 0, 0, 1, 1, 1, 1, 1] shE [] = some (.ret, [.ok (.len (.var 0)), .ok (.bin .neq (.len (.var 0)) (.con (.int .i64 9))), .is (.bin .neq (.len (.var 0)) (.con (.int .i64 9))) (.bool false), .ok (.len (.var 1)), .ok (.bin .neq (.len (.var 1)) (.con (.int .i64 9))), .is (.bin .neq (.len (.var 1)) (.con (.int .i64 9))) (.bool false), Zll, Zll, .ok zIfm4, .ok (.slen zIfm4), .ok (.bin .neq (.slen zIfm4) (.con (.int .i64 32))), .is (.bin .neq (.slen zIfm4) (.con (.int .i64 32))) (.bool false), Zlk, Zlk, .ok zIfm5, .ok (.slen zIfm5), .ok (.bin .neq (.slen zIfm5) (.con (.int .i64 32))), .is (.bin .neq (.slen zIfm5) (.con (.int .i64 32))) (.bool false), Zll, Zll, .ok zIfm4, .ok (.op (Op.slice 9 (Operand.tmp 62) none (some (Operand.const (.int .i64 4))) none) 9 [62] [zIfm4]), .ok zIfm9, .is zIfm9 (.bool true), Zll, Zll, .ok zIfm4, .ok (.op (Op.slice 9 (Operand.tmp 68) (some (Operand.const (.int .i64 14))) (some (Operand.const (.int .i64 24))) none) 9 [68] [zIfm4]), .ok zIfm6, .is zIfm6 (.bool true), Zlk, Zlk, .ok zIfm5, .ok zIfm8, .ok zIfm12, .is zIfm12 (.bool true), Zlk, Zlk, .ok zIfm5, .ok (.op (Op.slice 9 (Operand.tmp 82) (some (Operand.const (.int .i64 11))) (some (Operand.const (.int .i64 19))) none) 9 [82] [zIfm5]), .ok zIfm7, .is zIfm7 (.bool true), .idx (.var 1) Zi7 1 1, .idx (.var 1) Zi7 1 1, .ok (.cell (.var 1) Zi7 1 0), .idx (.var 0) Zi7 1 1, .idx (.var 0) Zi7 1 1, .ok (.cell (.var 0) Zi7 1 0), .ok zIfm16, .is zIfm16 (.bool true), .ok (.con (.bool true))], [.con (.bool true)]) := by kernel_rfl

def s1 : StM := (openS newS 2 258 ⟨⟨[97, 98]⟩⟩).1
def s2 : StM := (Zbg s1 2 259 1 [(0, ⟨⟨[120, 121, 122]⟩⟩)]).1
def s3 : StM := ⟨s2.files, s2.marks, 7⟩
theorem hm1 : MayS s1 := Zg1.1 (by kernel_rfl)
theorem hm3 : MayS s3 := Zg1.1 (by kernel_rfl)
noncomputable def G : Fns := fun k => match k with | 1 => spec RPuI | 2 => spec RTi | 3 => spec RDfI | 4 => spec sta.RNew | 5 => spec RSmS | 7 => spec RTrue | 8 => spec ROpen | 9 => spec Zn3 | _ => fun _ => none
theorem u1 : ToldF 29 (EPuI 1) (G 1) := Zoa 1
theorem u4 : ToldF 27 (ENew 4) (G 4) := sta.toldNew 4
theorem u7 : ToldF 28 (ETrue 7) (G 7) := toldBg 7
theorem u8 : ToldF 14 (EOpen 8) (G 8) := toldOpen 8
theorem u9 : ToldF 16 (Zew 9) (G 9) := toldFlush 9
theorem G7 : G 7 [] = some [pB true] := Zan fTrue ⟨rfl, rfl⟩
def Z32 : ByteArray := ⟨⟨[0, 0, 0, 0, 0, 0, 0, 0, 0, 0, 0, 0, 0, 0, 0, 0, 0, 0, 0, 0, 0, 0, 0, 0, 0, 0, 0, 0, 0, 0, 0, 0]⟩⟩
def B0 : ByteArray := ofL ((imgB s3).take 32)
def B1 : ByteArray := ofL (((imgB s3).drop 32).take 32)
theorem l0_all : putI newS = List.replicate 9 Z32 := by kernel_rfl
theorem m_0 : (putI s3)[0]? = some B0 := by kernel_rfl
theorem m_1 : (putI s3)[1]? = some B1 := by kernel_rfl
theorem m_2 : (putI s3)[2]? = some Z32 := by kernel_rfl
theorem o1 : opVal Try.prog (Op.slice 9 (Operand.tmp 62) none (some (Operand.const (.int .i64 4))) none) 9 [62] [.string B0] = some (.string ⟨⟨[0, 0, 0, 7]⟩⟩) := by kernel_rfl
theorem o2 : opVal Try.prog (Op.slice 9 (Operand.tmp 68) (some (Operand.const (.int .i64 14))) (some (Operand.const (.int .i64 24))) none) 9 [68] [.string B0] = some (.string ⟨⟨[0, 0, 1, 3, 0, 1, 0, 0, 0, 2]⟩⟩) := by kernel_rfl
theorem o3 : opVal Try.prog (Op.slice 9 (Operand.tmp 75) (some (Operand.const (.int .i64 2))) (some (Operand.const (.int .i64 6))) none) 9 [75] [.string B1] = some (.string ⟨⟨[2, 97, 98, 0]⟩⟩) := by kernel_rfl
theorem o4 : opVal Try.prog (Op.slice 9 (Operand.tmp 82) (some (Operand.const (.int .i64 11))) (some (Operand.const (.int .i64 19))) none) 9 [82] [.string B1] = some (.string ⟨⟨[0, 0, 0, 2, 3, 120, 121, 122]⟩⟩) := by kernel_rfl
theorem Zl4 (l : List ByteArray) (i : Nat) {x : ByteArray} (h : l[i]? = some x) : Zbh (pRow encS l) (pI (i : Int)) 1 0 = some (pS x) /\ IdxP (some (pRow encS l)) (some (pI (i : Int))) 1 1 := by
 obtain ⟨hi, rfl⟩ := List.getElem?_eq_some_iff.1 h
 exact ⟨cellS l i hi, Zar encS l i 1 1 .i64 rfl hi (by decide)⟩
theorem cutA : flA = flA.take 5 ++ .block (Zap (nth flA 5)) (.loop (Zal (nth flA 5))) :: (((flA.drop 6).take 4) ++ flA.drop 10) := by kernel_rfl
set_option maxHeartbeats 1000000 in
theorem told (k0 : Nat) : ToldF 5 (ETrue k0) (spec RTrue) := by
 refine Zcp G _ (Zaq Try.prog 5) Try.func5 (by kernel_rfl) sh0 (by kernel_rfl) ?_ ?_
 ·intro ps qs h i hi
  simp [sh0] at hi
 ·intro C ps qs hF h a w hsh
  obtain ⟨rfl, rfl⟩ := Zaj h
  show wpL Try.prog flA _ a w
  rw [cutA]
  have g4 : G 4 [] = some [pRow encF newS.files, pRow encM newS.marks, pI newS.epoch] := Zan sta.fNew ⟨rfl, rfl⟩
  have g1 := Znq Zgz G 1 rfl
  have g8 : G 8 [pRow encF newS.files, pRow encM newS.marks, pI newS.epoch, pI 2, pI 258, pS ⟨⟨[97, 98]⟩⟩] = some (pSt s1 ++ pMk (openS newS 2 258 ⟨⟨[97, 98]⟩⟩).2) := Zan fOpen ⟨newS, 2, 258, ⟨⟨[97, 98]⟩⟩, Zgz.st, by omega, by omega, by decide, rfl, rfl⟩
  have g9 : G 9 [pRow encF s1.files, pRow encM s1.marks, pI s1.epoch, pI 2, pI 259, pI 1, .row 1 [pI 0, pS ⟨⟨[120, 121, 122]⟩⟩]] = some (pSt s2 ++ pMk (Zbg s1 2 259 1 [(0, ⟨⟨[120, 121, 122]⟩⟩)]).2) := Zan fFlush ⟨s1, 2, 259, 1, [(0, ⟨⟨[120, 121, 122]⟩⟩)], hm1.st, by omega, by omega, by omega, by omega, by decide, by simp; decide, rfl, rfl⟩
  have g3 := Znq hm3 G 1 rfl
  have g3 : G 1 [pRow encF s2.files, pRow encM s2.marks, pI 7] = some [pRow encS (putI s3)] := g3
  have hl3 : (putI s3).length = 9 := Zb1 hm3
  have c0 : Zbh (pRow encS (putI s3)) (pI 0) 1 0 = some (pS B0) := (Zl4 _ 0 m_0).1
  have i0 : IdxP (some (pRow encS (putI s3))) (some (pI 0)) 1 1 := (Zl4 _ 0 m_0).2
  have c1 : Zbh (pRow encS (putI s3)) (pI 1) 1 0 = some (pS B1) := (Zl4 _ 1 m_1).1
  have i1 : IdxP (some (pRow encS (putI s3))) (some (pI 1)) 1 1 := (Zl4 _ 1 m_1).2
  have c2 : Zbh (pRow encS (putI s3)) (pI 2) 1 0 = some (pS Z32) := (Zl4 _ 2 m_2).1
  have i2 : IdxP (some (pRow encS (putI s3))) (some (pI 2)) 1 1 := (Zl4 _ 2 m_2).2
  have z0 : (B0.size : Int) = 32 := by kernel_rfl
  have z1 : (B1.size : Int) = 32 := by kernel_rfl
  have p1 := o1
  have p2 := o2
  have p3 := o3
  have p4 := o4
  have rl3 := Zaf encS (putI s3)
  rw [hl3] at rl3
  rw [l0_all] at g1
  generalize putI s3 = m at *
  generalize B0 = b0 at *
  generalize B1 = b1 at *
  have e8 : pSt s1 ++ pMk (openS newS 2 258 ⟨⟨[97, 98]⟩⟩).2 = [pRow encF s1.files, pRow encM s1.marks, pI s1.epoch] ++ pMk (openS newS 2 258 ⟨⟨[97, 98]⟩⟩).2 := rfl
  have e9 : pSt s2 ++ pMk (Zbg s1 2 259 1 [(0, ⟨⟨[120, 121, 122]⟩⟩)]).2 = [pRow encF s2.files, pRow encM s2.marks, pI s2.epoch] ++ pMk (Zbg s1 2 259 1 [(0, ⟨⟨[120, 121, 122]⟩⟩)]).2 := rfl
  rw [e8] at g8
  rw [e9] at g9
  generalize (openS newS 2 258 ⟨⟨[97, 98]⟩⟩).2 = k1 at *
  generalize (Zbg s1 2 259 1 [(0, ⟨⟨[120, 121, 122]⟩⟩)]).2 = k2 at *
  generalize newS = t0 at *
  generalize s1 = t1 at *
  generalize s2 = t2 at *
  generalize hlz : List.replicate 9 Z32 = l at *
  have hl : l.length = 9 := by rw [<- hlz]; rfl
  have hlg : ∀ (i : Nat) (h : i < l.length), l[i] = Z32 := by subst hlz; intro i h; rw [List.getElem_replicate]
  clear hlz
  have rl := Zaf encS l
  rw [hl] at rl
  refine Zag Zac Zad (Zai tabA) pre hsh ?_ ?_
  ·simp only [fmC, fmN]
   simp [-Zae, Zab, Zaa, Base.ev, SX.ev, evs, Value.oneCell', hF, binPV, G7, u7, g4, g1, u1, u4]
  intro qs a1 w1 hq h1
  refine ⟨fun _ => ?_, fun h => absurd rfl h⟩
  simp [evs, SX.ev, hF, g4, g1] at hq
  subst hq
  refine Za0 (fun q a w => ∃ i : Nat, i <= 9 /\ q = 9 - i /\ Zah C shL [pRow encS l, pI (i : Int)] a w) ?_ (n := 9) ⟨0, by omega, by omega, h1⟩
  rintro q a w ⟨i, hi, rfl, hin⟩
  show wpL Try.prog lpA _ a w
  rw [<- List.append_nil lpA]
  by_cases hlt : i < 9
  ·have v3 : IntKind.i64.wrap ((i : Int) + 1) = (i : Int) + 1 := wrapI _ (by omega) (by omega)
   have c0 := cellS l i (by omega)
   have ix := Zar encS l i 1 1 .i64 rfl (by omega) (by decide)
   have hi9 : (i : Int) < 9 := by omega
   rw [hlg] at c0
   have c0 : Zbh (pRow encS l) (pI (i : Int)) 1 0 = some (pS ⟨⟨[0, 0, 0, 0, 0, 0, 0, 0, 0, 0, 0, 0, 0, 0, 0, 0, 0, 0, 0, 0, 0, 0, 0, 0, 0, 0, 0, 0, 0, 0, 0, 0]⟩⟩) := c0
   refine Zag Zac Zad (Zai tabA) ln hin ?_ (fun qs a1 w1 hq h1 => ⟨fun _ => .inl ⟨rfl, 9 - (i + 1), by omega, i + 1, by omega, rfl, by simp [evs, SX.ev, binPV, v3] at hq; subst hq; exact h1⟩, fun h => absurd rfl h⟩)
   simp only [fmC, fmN]
   simp [-Zae, Zab, Zaa, Base.ev, SX.ev, evs, Value.oneCell', hF, binPV, rl, v3, c0, ix, hi9]
  ·have hie : i = 9 := by omega
   subst hie
   refine Zag Zac Zad (Zai tabA) lx hin ?_ ?_
   ·simp only [fmC, fmN]
    simp [-Zae, Zab, Zaa, Base.ev, SX.ev, evs, Value.oneCell', binPV, rl]
   ·intro qs a1 w1 hq h1
    refine ⟨fun h => (by cases h), fun _ => .inr (.inl ⟨by rw [show Zap (nth flA 5) = 0 by kernel_rfl]; rfl, ?_⟩)⟩
    simp [evs, SX.ev] at hq
    subst hq
    refine Zag Zac Zad (Zai tabA) mid h1 ?_ ?_
    ·simp only [fmC, fmN]
     simp [-Zae, Zab, Zaa, Base.ev, SX.ev, evs, Value.oneCell', hF, binPV, g4, g8, g9, g3, u1, u4, u8, u9, pMk]
    ·intro qs a1 w1 hq h1
     refine ⟨fun _ => ?_, fun h => absurd rfl h⟩
     simp [evs, SX.ev, hF, g4, g8, g9, g3] at hq
     subst hq
     rw [<- List.append_nil (flA.drop 10)]
     have d2 : Zbh (pRow encS l) (pI 2) 1 0 = some (pS Z32) := by rw [<- hlg 2 (by omega)]; exact cellS l 2 (by omega)
     have j2 : IdxP (some (pRow encS l)) (some (pI 2)) 1 1 := Zar encS l 2 1 1 .i64 rfl (by omega) (by decide)
     generalize Z32 = z at *
     refine Zag Zac Zad (Zai tabA) pst h1 ?_ (fun qs a1 w1 hq h1 => ⟨fun h => (by cases h), fun _ => ⟨.inr rfl, shE, _, [SX.var 0], h1, by kernel_rfl, by simp [evs, SX.ev] at hq; subst hq; rfl⟩⟩)
     simp only [fmC, fmN]
     simp [-Zae, Zab, Zaa, Base.ev, SX.ev, evs, Value.oneCell', hF, binPV, rl, rl3, c0, i0, c1, i1, c2, i2, d2, j2, Za2, z0, z1, Zcq, PV.plain, p1, p2, p3, p4]
theorem walk (w : World) : Calls Try.prog 5 #[] w fun e w' => e = .returned (.bool true) /\ Ex w w' := by
 refine told_true (told 0) rfl (us := []) (ps := []) (Zan fTrue ⟨rfl, rfl⟩) rfl rfl (fun i p u hp hu => ?_)
 simp at hp

end Go.Proofs.Ytonebjgdhachcaa.imageForms
