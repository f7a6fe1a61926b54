/- ImageFixed by the symbolic engine. -/
import Derived.Test.YtonebjgdhachcaaIlw
namespace Go.Proofs.Ytonebjgdhachcaa.imageFixed
open Go Go.RowKit eng SX Fact fil ima symD sta ise idf ieq irs iti ipd ilw
open dirs (encF cellF FileM)
open fileFronts (Zae rowU)
open pck hiding F F20 F21
set_option linter.unusedVariables false
set_option linter.unusedSimpArgs false
set_option maxRecDepth 1000000

def tabA (f : FuncId) : Option FnE := cond (Nat.beq f 28) (some (ETrue 7)) (tabB f)
def tabAP (f : FuncId) : Option PtrE := cond (Nat.beq f 10) (some (sta.ESt 24)) none
def orcA : Orc := orcOr (orcFn tabA) (orcP tabAP)
noncomputable def flA := flat (Zaq Try.prog 6)
noncomputable def lpA := flat (Zal (nth flA 7))
def sh0 : Shape := ⟨[(0, .leaf)], [], [some true], 46, 6⟩
def shL : Shape := ⟨[(3, .leaf), (4, .leaf)], [], [some false, none], 46, 6⟩
def shE : Shape := ⟨[(2, .leaf)], [], [none], 46, 6⟩
@[simp] def zIfx1 : List SX := [.con (.int .i64 30), .var 0, .con (.int .i64 0)]
@[simp] def zIfx2 : List SX := [.var 0, .fn 1 [.fn 4 [] 0, .fn 4 [] 1, .fn 4 [] 2] 0]
@[simp] def zIfx3 : SX := .bin .gtr (.len (.var 0)) (.con (.int .i64 60))
@[simp] def zIfx4 : SX := .bin .lss (.var 1) (.len (.var 0))
@[simp] def zIfx5 : SX := .bin .add (.var 1) (.con (.int .i64 1))
@[simp] def zIfx6 : SX := .cell (.var 0) (.var 1) 1 0
@[simp] def zIfx7 : SX := .bin .eql (.len (.fn 3 [.var 0, .var 0] 0)) (.con (.int .i64 0))
@[simp] def zIfx8 : Fact := .ok (.len (.var 0))
@[simp] def zIfx9 : SX := .bin .leq (.len (.fn 3 zIfx2 0)) (.con (.int .i64 9))
theorem q1 : segTo Try.prog orcA 10000 flA sh0 [1, 1] shE [] = some (.ret, [.fn 28 (ETrue 7) [], .is (.fn 7 [] 0) (.bool true), zIfx8, .ok zIfx3, .is zIfx3 (.bool true), .ok (.con (.bool true))], [.con (.bool true)]) := by kernel_rfl
theorem pre : segTo Try.prog orcA 10000 (flA.take 7) sh0 [1, 0] shL [] = some (.normal, [.fn 28 (ETrue 7) [], .is (.fn 7 [] 0) (.bool true), zIfx8, .ok zIfx3, .is zIfx3 (.bool false), .fp 10 (sta.ESt 24) zIfx1, .ok (.fn 24 zIfx1 2), .ok (.fn 24 zIfx1 4), .fn 29 (EPuI 1) [.fn 24 zIfx1 0, .fn 24 zIfx1 1, .fn 24 zIfx1 2], .ok (.con (.int .i64 0))], [.fn 1 [.fn 24 zIfx1 0, .fn 24 zIfx1 1, .fn 24 zIfx1 2] 0, .con (.int .i64 0)]) := by kernel_rfl
theorem lx : segTo Try.prog orcA 10000 lpA shL [0] shL [] = some (.exit 0, [zIfx8, .ok zIfx4, .is zIfx4 (.bool false), .ok (.var 1)], [.var 0, .var 1]) := by kernel_rfl
theorem ln : segTo Try.prog orcA 10000 lpA shL [1, 0] shL [] = some (.normal, [zIfx8, .ok zIfx4, .is zIfx4 (.bool true), .idx (.var 0) (.var 1) 1 1, .idx (.var 0) (.var 1) 1 1, .ok zIfx6, .ok (.slen zIfx6), .ok (.bin .neq (.slen zIfx6) (.con (.int .i64 32))), .is (.bin .neq (.slen zIfx6) (.con (.int .i64 32))) (.bool false), .ok zIfx5, .ok zIfx5], [.var 0, zIfx5]) := by kernel_rfl
theorem post : segTo Try.prog orcA 10000 (flA.drop 8) shL [1, 1, 1] shE [] = some (.ret, [.fn 27 (ENew 4) [], .ok (.fn 4 [] 2), .fn 29 (EPuI 1) [.fn 4 [] 0, .fn 4 [] 1, .fn 4 [] 2], .fn 31 (EDfI 3) zIfx2, zIfx8, .ok (.bin .eql (.len (.var 0)) (.con (.int .i64 9))), .is (.bin .eql (.len (.var 0)) (.con (.int .i64 9))) (.bool true), .ok (.len (.fn 3 zIfx2 0)), .ok zIfx9, .is zIfx9 (.bool true), .fn 31 (EDfI 3) [.var 0, .var 0], .ok (.len (.fn 3 [.var 0, .var 0] 0)), .ok zIfx7, .is zIfx7 (.bool true), .ok (.con (.bool true))], [.con (.bool true)]) := by kernel_rfl

def ELaw (k : Nat) : FnE := { k := k, ins := [none], leaks := [true], outs := [none], kinds := [.truth] }
def RL (ps qs : List PV) : Prop := ∃ p : List Nat, p.length <= 9223372036854775807 /\ (∀ z ∈ p, z < 256) /\ ps = [pRow encU p] /\ qs = [pB true]
theorem fL : ∀ ps q1 q2, RL ps q1 -> RL ps q2 -> q1 = q2 := by
 rintro ps q1 q2 ⟨_, _, _, _, rfl⟩ ⟨_, _, _, _, rfl⟩; rfl
noncomputable def G : Fns := fun k => match k with | 1 => spec RPuI | 2 => spec RTi | 3 => spec RDfI | 4 => spec sta.RNew | 5 => spec RSmS | 7 => spec RTrue | 24 => spec RSt | _ => fun _ => none
theorem u1 : ToldF 29 (EPuI 1) (G 1) := Zoa 1
theorem u3 : ToldF 31 (EDfI 3) (G 3) := toldDfI 3
theorem u4 : ToldF 27 (ENew 4) (G 4) := sta.toldNew 4
theorem u7 : ToldF 28 (ETrue 7) (G 7) := toldBg 7
theorem u24 : ToldP 10 (sta.ESt 24) (G 24) := sta.toldSt 24
theorem G7 : G 7 [] = some [pB true] := Zan fTrue ⟨rfl, rfl⟩
theorem Zj9 : OrcOk Try.prog orcA := Zht (Zai tabA) (Zcz tabAP)
theorem cutA : flA = flA.take 7 ++ .block (Zap (nth flA 7)) (.loop (Zal (nth flA 7))) :: flA.drop 8 := by kernel_rfl
set_option maxHeartbeats 1000000 in
theorem told (k0 : Nat) : ToldF 6 (ELaw k0) (spec RL) := by
 refine Zcp G _ (Zaq Try.prog 6) Try.func6 (by kernel_rfl) sh0 (by kernel_rfl) ?_ ?_
 ·intro ps qs h i hi
  obtain ⟨p, _, _, rfl, rfl⟩ := Zaj h
  simp [sh0] at hi
  match i, hi with
  | 0, hi => simp at hi
  | i + 1, hi => simp at hi
 ·intro C ps qs hF h a w hsh
  obtain ⟨p, hp, hz, rfl, rfl⟩ := Zaj h
  show wpL Try.prog flA _ a w
  have fin : ∀ qs a1 w1, qs = [pB true] -> Zah C shE qs a1 w1 -> (AX.ret = .normal -> wpL Try.prog [] (fun e a' w' => (e = .normal \/ e = .ret) /\ ∃ sh' ps' es, Zah C sh' ps' a' w' /\ resTo Try.prog Try.f6 sh' (ELaw k0) = some es /\ evs (fun i => ps'[i]?) G es = some [pB true]) a1 w1) /\ (AX.ret ≠ .normal -> (AX.ret.to = .normal \/ AX.ret.to = .ret) /\ ∃ sh' ps' es, Zah C sh' ps' a1 w1 /\ resTo Try.prog Try.f6 sh' (ELaw k0) = some es /\ evs (fun i => ps'[i]?) G es = some [pB true]) := by
   rintro qs a1 w1 rfl h1
   exact ⟨fun h => (by cases h), fun _ => ⟨.inr rfl, shE, _, [SX.var 0], h1, by kernel_rfl, rfl⟩⟩
  by_cases hp1 : 60 < p.length
  ·rw [<- List.append_nil flA]
   refine Zag Zac Zad Zj9 q1 hsh ?_ (fun qs a1 w1 hq h1 => fin qs a1 w1 (by simp [evs, SX.ev] at hq; exact hq.symm) h1)
   simp only [fmC, fmN]
   simp [-Zae, Zab, Zaa, Base.ev, SX.ev, evs, Value.oneCell', hF, Zaf, binPV, G7, u7]
   all_goals omega
  rw [cutA]
  obtain ⟨s, n2, hm, e24⟩ := made30 (p := p) (by omega) hz
  have e24 : G 24 [pI 30, pRow encU p, pI 0] = some [pRow encF s.files, pRow encM s.marks, pI s.epoch, pRow encU p, pI (n2 : Int)] := e24
  have g1 := Znq hm G 1 rfl
  have hl : (putI s).length = 9 := Zb1 hm
  have h32 := putI_size (s := s)
  generalize putI s = l at *
  refine Zag Zac Zad Zj9 pre hsh ?_ ?_
  ·simp only [fmC, fmN]
   simp [-Zae, Zab, Zaa, Base.ev, SX.ev, evs, Value.oneCell', hF, Zaf, binPV, G7, u7, e24, u24, g1, u1]
   all_goals omega
  intro qs a1 w1 hq h1
  refine ⟨fun _ => ?_, fun h => absurd rfl h⟩
  simp [evs, SX.ev, hF, e24, g1] at hq
  subst hq
  have rl := Zaf encS l
  rw [hl] at rl
  refine Za0 (fun q a w => ∃ i : Nat, i <= 9 /\ q = 9 - i /\ Zah C shL [pRow encS l, pI (i : Int)] a w) ?_ (n := 9) ⟨0, by omega, by omega, h1⟩
  rintro q a w ⟨i, hi, rfl, hin⟩
  show wpL Try.prog lpA _ a w
  rw [<- List.append_nil lpA]
  by_cases hlt : i < 9
  ·have v3 : IntKind.i64.wrap ((i : Int) + 1) = (i : Int) + 1 := wrapI _ (by omega) (by omega)
   have c0 := cellS l i (by omega)
   have ix := Zar encS l i 1 1 .i64 rfl (by omega) (by decide)
   have hi9 : (i : Int) < 9 := by omega
   have hs : (l[i].size : Int) = 32 := by have := h32 _ (List.getElem_mem (show i < l.length by omega)); omega
   generalize l[i] = x at *
   refine Zag Zac Zad Zj9 ln hin ?_ (fun qs a1 w1 hq h1 => ⟨fun _ => .inl ⟨rfl, 9 - (i + 1), by omega, i + 1, by omega, rfl, by simp [evs, SX.ev, binPV, v3] at hq; subst hq; exact h1⟩, fun h => absurd rfl h⟩)
   simp only [fmC, fmN]
   simp [-Zae, Zab, Zaa, Base.ev, SX.ev, evs, Value.oneCell', hF, binPV, rl, v3, c0, ix, hi9, Za2, hs]
  ·have hie : i = 9 := by omega
   subst hie
   refine Zag Zac Zad Zj9 lx hin ?_ ?_
   ·simp only [fmC, fmN]
    simp [-Zae, Zab, Zaa, Base.ev, SX.ev, evs, Value.oneCell', binPV, rl]
   ·intro qs a1 w1 hq h1
    refine ⟨fun h => (by cases h), fun _ => .inr (.inl ⟨by rw [show Zap (nth flA 7) = 0 by kernel_rfl]; rfl, ?_⟩)⟩
    simp [evs, SX.ev] at hq
    subst hq
    rw [<- List.append_nil (flA.drop 8)]
    have g4 : G 4 [] = some [pRow encF newS.files, pRow encM newS.marks, pI newS.epoch] := Zan sta.fNew ⟨rfl, rfl⟩
    have g2 := Znq Zgz G 1 rfl
    have hl2 : (putI newS).length = 9 := Zb1 Zgz
    have g3 := Zmu (l := l) (m := putI newS) (by omega) (by omega) G 3 rfl
    have g5 := Zmu (l := l) (m := l) (by omega) (by omega) G 3 rfl
    rw [difI_self] at g5
    have hd := diff_bound l (putI newS)
    have rd := Zaf encQ (difI l (putI newS))
    have r0 : lenPV (pRow encQ []) = some (pI 0) := rfl
    obtain ⟨z, hz⟩ : ∃ z : Nat, z = (difI l (putI newS)).length := ⟨_, rfl⟩
    rw [<- hz] at rd hd
    have hz9 : (z : Int) <= 9 := by omega
    generalize difI l (putI newS) = d at *
    generalize putI newS = m at *
    generalize newS = t at *
    refine Zag Zac Zad Zj9 post h1 ?_ (fun qs a1 w1 hq h1 => fin qs a1 w1 (by simp [evs, SX.ev] at hq; exact hq.symm) h1)
    simp only [fmC, fmN]
    simp [-Zae, Zab, Zaa, Base.ev, SX.ev, evs, Value.oneCell', hF, binPV, rl, rd, r0, hz9, g4, g2, g3, g5, u1, u3, u4]
theorem walk (w : World) (v : Value) (len : Nat) (Z : Nat -> Int) (hg : IsRow .u8 w v len Z) :
  Calls Try.prog 6 #[v] w fun e w' => e = .returned (.bool true) /\ Ex w w' := by
 obtain ⟨p, hbp, hlen, hr⟩ := rowU hg
 refine told_true (told 0) rfl (us := [v]) (ps := [pRow encU p]) (Zan fL ⟨p, hlen, hbp, rfl, rfl⟩) rfl rfl (fun i p u hp hu => ?_)
 match i, hp, hu with
 | 0, hp, hu => simp at hp hu; subst hp; subst hu; exact hr
 | i + 1, hp, hu => simp at hp

end Go.Proofs.Ytonebjgdhachcaa.imageFixed
