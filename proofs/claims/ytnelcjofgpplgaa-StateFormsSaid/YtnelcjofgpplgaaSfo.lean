/- StateForms by the engine: closed but for what is asked of states, which is told. -/
import Derived.Test.YtnelcjofgpplgaaSop
import Derived.Test.YtnelcjofgpplgaaSbg
namespace Go.Proofs.Ytnelcjofgpplgaa.stateForms
open Go Go.RowKit eng SX Fact fil fileFronts dirs pck may sta
open fileFronts
open pck hiding F F20 F21
open dirs hiding shR shRl shRR flR lpR cutR f0 f1 f2 f3 m0 m1 m2 x2 x3 n1
open may hiding m1 m2 m3 m4 r1 r2 r3 r4 r5
set_option linter.unusedVariables false
set_option linter.unusedSimpArgs false
set_option maxRecDepth 1000000

def tabB (f : FuncId) : Option FnE := cond (Nat.beq f 9) (some (ETrue 7)) none
def tabBx (f : FuncId) : Option (FnE × List Value) := cond (Nat.beq f 51) (some (EMb 5, [pvS1, pvS2, pvS3])) none
def orcB : Orc := orcOr (orcFn tabB) (orcX tabBx)
@[simp] def zSfo1 : SX := .con (.string { data := { toList := [] } })
@[simp] def zSfo2 : List SX := [.lit 6 [.con (.string { data := { toList := [UInt8.ofNat 97] } }), .con (.int .i64 1), zSfo1, .con (.string { data := { toList := [UInt8.ofNat 98] } }), .con (.int .i64 1), zSfo1, .con (.string { data := { toList := [UInt8.ofNat 99] } }), .con (.int .i64 2), .con (.string { data := { toList := [UInt8.ofNat 120] } }), .con (.string { data := { toList := [UInt8.ofNat 100] } }), .con (.int .i64 1), zSfo1, .con (.string { data := { toList := [UInt8.ofNat 101] } }), .con (.int .i64 1), zSfo1, .con (.string { data := { toList := [UInt8.ofNat 102] } }), .con (.int .i64 1), zSfo1], .lit 3 [.con (.int .i64 9), .con (.int .i64 3), .con (.int .i64 0), .con (.int .i64 0), .con (.int .i64 1), .con (.int .i64 0), .con (.int .i64 3), .con (.int .i64 2), .con (.int .i64 0), .con (.int .i64 0), .con (.int .i64 0), .con (.int .i64 0)], .con (.int .i64 0)]
@[simp] def zSfo3 : SX := .con (.int .i64 0)
@[simp] def zSfo4 : SX := .lit 6 [.con (.string { data := { toList := [UInt8.ofNat 97] } }), .con (.int .i64 1), zSfo1, .con (.string { data := { toList := [UInt8.ofNat 98] } }), .con (.int .i64 1), zSfo1, .con (.string { data := { toList := [UInt8.ofNat 99] } }), .con (.int .i64 1), zSfo1, .con (.string { data := { toList := [UInt8.ofNat 100] } }), .con (.int .i64 1), zSfo1, .con (.string { data := { toList := [UInt8.ofNat 101] } }), .con (.int .i64 1), zSfo1, .con (.string { data := { toList := [UInt8.ofNat 102] } }), .con (.int .i64 1), zSfo1]
@[simp] def zSfo5 : List SX := [.lit 6 [.con (.string { data := { toList := [UInt8.ofNat 97] } }), .con (.int .i64 1), zSfo1, .con (.string { data := { toList := [UInt8.ofNat 98] } }), .con (.int .i64 1), zSfo1, zSfo1, zSfo3, zSfo1, .con (.string { data := { toList := [UInt8.ofNat 100] } }), .con (.int .i64 1), zSfo1, .con (.string { data := { toList := [UInt8.ofNat 101] } }), .con (.int .i64 1), zSfo1, .con (.string { data := { toList := [UInt8.ofNat 102] } }), .con (.int .i64 1), zSfo1], .lit 3 [.con (.int .i64 9), .con (.int .i64 3), zSfo3, zSfo3, .con (.int .i64 1), zSfo3, .con (.int .i64 3), .con (.int .i64 2), .con (.int .i64 1), zSfo3, .con (.int .i64 3), zSfo3], zSfo3]
@[simp] def zSfo6 : SX := .lit 6 [.con (.string { data := { toList := [UInt8.ofNat 97] } }), .con (.int .i64 1), zSfo1, .con (.string { data := { toList := [UInt8.ofNat 98] } }), .con (.int .i64 1), zSfo1, zSfo1, zSfo3, zSfo1, zSfo1, zSfo3, zSfo1, zSfo1, zSfo3, zSfo1, zSfo1, zSfo3, zSfo1]
@[simp] def zSfo7 : SX := .con (.int .i64 1)
@[simp] def zSfo8 : List SX := [.lit 6 [.con (.string { data := { toList := [UInt8.ofNat 97] } }), zSfo7, zSfo1, .con (.string { data := { toList := [UInt8.ofNat 98] } }), zSfo7, zSfo1, .con (.string { data := { toList := [UInt8.ofNat 110, UInt8.ofNat 101, UInt8.ofNat 119] } }), zSfo7, zSfo1, .con (.string { data := { toList := [UInt8.ofNat 100] } }), zSfo7, zSfo1, .con (.string { data := { toList := [UInt8.ofNat 101] } }), zSfo7, zSfo1, .con (.string { data := { toList := [UInt8.ofNat 102] } }), zSfo7, zSfo1], .lit 3 [.con (.int .i64 9), .con (.int .i64 3), zSfo3, zSfo3, zSfo7, zSfo3, .con (.int .i64 3), .con (.int .i64 2), .con (.int .i64 3), zSfo3, .con (.int .i64 3), zSfo7], zSfo3]
@[simp] def zSfo9 : List SX := [.lit 6 [.con (.string { data := { toList := [UInt8.ofNat 97] } }), zSfo7, zSfo1, .con (.string { data := { toList := [UInt8.ofNat 98] } }), zSfo7, zSfo1, .con (.string { data := { toList := [UInt8.ofNat 99] } }), zSfo7, zSfo1, .con (.string { data := { toList := [UInt8.ofNat 100] } }), zSfo7, zSfo1, .con (.string { data := { toList := [UInt8.ofNat 101] } }), zSfo7, zSfo1, zSfo1, zSfo3, zSfo1], .lit 3 [.con (.int .i64 7), zSfo3, .con (.int .i64 5), zSfo7, zSfo3, zSfo3, zSfo3, zSfo3, zSfo3, zSfo3, zSfo3, zSfo3], zSfo3]
@[simp] def zSfo10 : List SX := [.lit 6 [.con (.string { data := { toList := [UInt8.ofNat 97] } }), zSfo7, zSfo1, .con (.string { data := { toList := [UInt8.ofNat 98] } }), zSfo7, zSfo1, .con (.string { data := { toList := [UInt8.ofNat 99] } }), zSfo7, zSfo1, .con (.string { data := { toList := [UInt8.ofNat 100] } }), zSfo7, zSfo1, zSfo1, zSfo3, zSfo1, zSfo1, zSfo3, zSfo1], .lit 3 [.con (.int .i64 6), zSfo3, .con (.int .i64 4), zSfo7, zSfo3, zSfo3, zSfo3, zSfo3, zSfo3, zSfo3, zSfo3, zSfo3], zSfo3]
@[simp] def zSfo11 : List SX := [.lit 6 [.con (.string { data := { toList := [UInt8.ofNat 97] } }), zSfo7, zSfo1, .con (.string { data := { toList := [UInt8.ofNat 98] } }), zSfo7, zSfo1, .con (.string { data := { toList := [UInt8.ofNat 99] } }), zSfo7, zSfo1, zSfo1, zSfo3, zSfo1, zSfo1, zSfo3, zSfo1, zSfo1, zSfo3, zSfo1], .lit 3 [.con (.int .i64 5), zSfo3, .con (.int .i64 3), zSfo7, zSfo3, zSfo3, zSfo3, zSfo3, zSfo3, zSfo3, zSfo3, zSfo3], zSfo3]
@[simp] def zSfo12 : List SX := [zSfo4, .lit 3 [.con (.int .i64 9), .con (.int .i64 3), zSfo3, zSfo3, zSfo3, zSfo3, zSfo3, zSfo3, zSfo3, zSfo3, zSfo3, zSfo3], zSfo3]
@[simp] def zSfo13 : List SX := [.lit 6 [.con (.string { data := { toList := [UInt8.ofNat 97] } }), zSfo7, zSfo1, zSfo1, zSfo3, zSfo1, zSfo1, zSfo3, zSfo1, zSfo1, zSfo3, zSfo1, zSfo1, zSfo3, zSfo1, zSfo1, zSfo3, zSfo1], .lit 3 [zSfo7, zSfo3, zSfo7, zSfo7, zSfo3, zSfo3, zSfo3, zSfo3, zSfo3, zSfo3, zSfo3, zSfo3], zSfo3]
@[simp] def zSfo14 : List SX := [.lit 6 [zSfo1, zSfo3, zSfo1, zSfo1, zSfo3, zSfo1, zSfo1, zSfo3, zSfo1, zSfo1, zSfo3, zSfo1, zSfo1, zSfo3, zSfo1, zSfo1, zSfo3, zSfo1], .lit 3 [zSfo3, zSfo3, zSfo3, zSfo3, zSfo3, zSfo3, zSfo3, zSfo3, zSfo3, zSfo3, zSfo3, zSfo3], zSfo3]
@[simp] def zSfo15 : Fact := Fact.fx 51 (EMb 5) ([pvS1, pvS2, pvS3]) zSfo2
@[simp] def zSfo16 : List SX := [zSfo6, .lit 3 [.con (.int .i64 2), zSfo3, .con (.int .i64 2), zSfo7, zSfo3, zSfo3, zSfo3, zSfo3, zSfo3, zSfo3, zSfo3, zSfo3], zSfo3]
@[simp] def zSfo17 : List SX := [zSfo4, .lit 3 [.con (.int .i64 8), zSfo3, .con (.int .i64 6), zSfo7, zSfo3, zSfo3, zSfo3, zSfo3, zSfo3, zSfo3, zSfo3, zSfo3], zSfo3]
@[simp] def zSfo18 : List SX := [zSfo6, .lit 3 [.con (.int .i64 3), zSfo3, zSfo7, zSfo7, zSfo3, zSfo3, zSfo3, zSfo3, zSfo3, zSfo3, zSfo3, zSfo3], zSfo3]
@[simp] def zSfo19 : List SX := [zSfo6, .lit 3 [.con (.int .i64 4), zSfo7, zSfo3, zSfo3, zSfo3, zSfo3, zSfo3, zSfo3, zSfo3, zSfo3, zSfo3, zSfo3], zSfo3]
@[simp] def zSfo20 : Fact := .is (.fn 5 zSfo2 0) (.int .i64 0)
theorem ran : runTo Try.prog orcB 100000 6 (ETrue 9) [] [1, 0, 0, 0, 0, 0, 0, 0, 0, 0, 0, 0, 0, 0, 0, 0, 0, 0, 0, 0, 0, 0, 0, 0, 0, 0] (fun _ _ => none) = some ([.fn 9 (ETrue 7) [], .is (.fn 7 [] 0) (.bool true), Fact.fx 51 (EMb 5) ([pvS1, pvS2, pvS3]) zSfo14, .is (.fn 5 zSfo14 0) (.int .i64 0), Fact.fx 51 (EMb 5) ([pvS1, pvS2, pvS3]) zSfo13, .is (.fn 5 zSfo13 0) (.int .i64 0), Fact.fx 51 (EMb 5) ([pvS1, pvS2, pvS3]) zSfo16, .is (.fn 5 zSfo16 0) (.int .i64 0), Fact.fx 51 (EMb 5) ([pvS1, pvS2, pvS3]) zSfo18, .is (.fn 5 zSfo18 0) (.int .i64 0), Fact.fx 51 (EMb 5) ([pvS1, pvS2, pvS3]) zSfo19, .is (.fn 5 zSfo19 0) (.int .i64 0), Fact.fx 51 (EMb 5) ([pvS1, pvS2, pvS3]) zSfo11, .is (.fn 5 zSfo11 0) (.int .i64 0), Fact.fx 51 (EMb 5) ([pvS1, pvS2, pvS3]) zSfo10, .is (.fn 5 zSfo10 0) (.int .i64 0), Fact.fx 51 (EMb 5) ([pvS1, pvS2, pvS3]) zSfo9, .is (.fn 5 zSfo9 0) (.int .i64 0), Fact.fx 51 (EMb 5) ([pvS1, pvS2, pvS3]) zSfo17, .is (.fn 5 zSfo17 0) (.int .i64 0), Fact.fx 51 (EMb 5) ([pvS1, pvS2, pvS3]) zSfo12, .is (.fn 5 zSfo12 0) (.int .i64 0), Fact.fx 51 (EMb 5) ([pvS1, pvS2, pvS3]) zSfo12, .is (.fn 5 zSfo12 0) (.int .i64 0), zSfo15, zSfo20, zSfo15, zSfo20, zSfo15, zSfo20, zSfo15, zSfo20, zSfo15, zSfo20, Fact.fx 51 (EMb 5) ([pvS1, pvS2, pvS3]) zSfo5, .is (.fn 5 zSfo5 0) (.int .i64 0), Fact.fx 51 (EMb 5) ([pvS1, pvS2, pvS3]) zSfo5, .is (.fn 5 zSfo5 0) (.int .i64 0), Fact.fx 51 (EMb 5) ([pvS1, pvS2, pvS3]) zSfo8, .is (.fn 5 zSfo8 0) (.int .i64 0)], [.con (.bool true)]) := by kernel_rfl

def conL : List SX → Option (List PV)
  | [] => some []
  | .con v :: r => (conL r).map (PV.v v :: ·)
  | _ => none
theorem conL_ev {sv : Nat → Option PV} {F : Fns} : ∀ {es : List SX} {ps : List PV}, conL es = some ps → evs sv F es = some ps
  | [], ps, h => by simp only [conL, Option.some.injEq] at h; subst h; rfl
  | .con v :: r, ps, h => by
    simp only [conL, Option.map_eq_some_iff] at h
    obtain ⟨qs, hq, rfl⟩ := h
    simp [evs, SX.ev, conL_ev hq]
  | .var _ :: _, _, h => by simp [conL] at h
  | .op .. :: _, _, h => by simp [conL] at h
  | .bin .. :: _, _, h => by simp [conL] at h
  | .conv .. :: _, _, h => by simp [conL] at h
  | .slen .. :: _, _, h => by simp [conL] at h
  | .sidx .. :: _, _, h => by simp [conL] at h
  | .fn .. :: _, _, h => by simp [conL] at h
  | .cell .. :: _, _, h => by simp [conL] at h
  | .len .. :: _, _, h => by simp [conL] at h
  | .lit .. :: _, _, h => by simp [conL] at h
  | .agg .. :: _, _, h => by simp [conL] at h
  | .sub .. :: _, _, h => by simp [conL] at h
  | .rop .. :: _, _, h => by simp [conL] at h
def decF : Nat → List PV → Option (List FileM)
  | 0, [] => some []
  | k + 1, .v (.string a) :: .v (.int .i64 n) :: .v (.string b) :: r => (decF k r).map ((a, n, b) :: ·)
  | _, _ => none
theorem decF_ok : ∀ (k : Nat) {cs : List PV} {l : List FileM}, decF k cs = some l → l.length = k ∧ cs = (encF.all l).map PV.v
  | 0, cs, l, h => by
    unfold decF at h
    split at h
    · simp only [Option.some.injEq] at h; subst h; exact ⟨rfl, rfl⟩
    · rename_i hk; omega
    · cases h
  | k + 1, cs, l, h => by
    unfold decF at h
    split at h
    · rename_i hk; omega
    · rename_i k2 a n b r hk
      have : k2 = k := by omega
      subst this
      simp only [Option.map_eq_some_iff] at h
      obtain ⟨l2, hl, rfl⟩ := h
      obtain ⟨h1, h2⟩ := decF_ok k2 hl
      refine ⟨by simp [h1], ?_⟩
      rw [Enc.all_cons, List.map_append, ← h2]
      rfl
    · cases h
def decM : Nat → List PV → Option (List MarkM)
  | 0, [] => some []
  | k + 1, .v (.int .i64 a) :: .v (.int .i64 b) :: .v (.int .i64 c) :: .v (.int .i64 d) :: r => (decM k r).map ((a, b, c, d) :: ·)
  | _, _ => none
theorem decM_ok : ∀ (k : Nat) {cs : List PV} {l : List MarkM}, decM k cs = some l → l.length = k ∧ cs = (encM.all l).map PV.v
  | 0, cs, l, h => by
    unfold decM at h
    split at h
    · simp only [Option.some.injEq] at h; subst h; exact ⟨rfl, rfl⟩
    · rename_i hk; omega
    · cases h
  | k + 1, cs, l, h => by
    unfold decM at h
    split at h
    · rename_i hk; omega
    · rename_i k2 a b c d r hk
      have : k2 = k := by omega
      subst this
      simp only [Option.map_eq_some_iff] at h
      obtain ⟨l2, hl, rfl⟩ := h
      obtain ⟨h1, h2⟩ := decM_ok k2 hl
      refine ⟨by simp [h1], ?_⟩
      rw [Enc.all_cons, List.map_append, ← h2]
      rfl
    · cases h
def chkS (es gs : List SX) (e : Int) : Bool := match conL es, conL gs with
  | some ps, some qs => (match decF 6 ps, decM 3 qs with
    | some l, some m => mustN ⟨l, m, e⟩ == 0
    | _, _ => false)
  | _, _ => false
noncomputable def G : Fns := fun k => match k with | 5 => spec RMb | 7 => spec RTrue | _ => fun _ => none
theorem lit_must {sv : Nat → Option PV} {es gs : List SX} {e : Int} (h : chkS es gs e = true) : ∃ ps, evs sv G [.lit 6 es, .lit 3 gs, .con (.int .i64 e)] = some ps ∧ G 5 ps = some [pI 0] := by
  unfold chkS at h
  split at h
  · rename_i ps qs h1 h2
    split at h
    · rename_i l m h3 h4
      obtain ⟨l1, rfl⟩ := decF_ok 6 h3
      obtain ⟨l2, rfl⟩ := decM_ok 3 h4
      have hm : MayS ⟨l, m, e⟩ := mayS_iff.1 (by simpa using h)
      refine ⟨_, by simp [evs, SX.ev, conL_ev h1, conL_ev h2]; rfl, ?_⟩
      have : spec RMb (pSt ⟨l, m, e⟩) = some [pI 0] := spec_of fMb ⟨⟨l, m, e⟩, hm.pre, rfl, by rw [mayS_iff.2 hm]; rfl⟩
      have hl : pSt ⟨l, m, e⟩ = [.row 6 ((encF.all l).map PV.v), .row 3 ((encM.all m).map PV.v), pI e] := by
        show [PV.row l.length _, PV.row m.length _, _] = _
        rw [l1, l2]
      rw [hl] at this
      exact this
    · cases h
  · cases h
theorem g5 : ToldX 51 (EMb 5) [pvS1, pvS2, pvS3] (G 5) := toldMb 5
theorem u7 : ToldF 9 (ETrue 7) (G 7) := told_closed 7 fun w => calls_true names_ok mixed_ok fil.noOrc_ok (args := []) ranB w
theorem G7 : G 7 [] = some [pB true] := spec_of fTrue ⟨rfl, rfl⟩
theorem orcB_ok : OrcOk Try.prog orcB := orcOr_ok (orcFn_ok tabB) (orcX_ok tabBx)
theorem fx_lit {B : Base} (hF : B.F = G) {es gs : List SX} {e : Int} (h : chkS es gs e = true) : (Fact.fx 51 (EMb 5) [pvS1, pvS2, pvS3] [.lit 6 es, .lit 3 gs, .con (.int .i64 e)]).holds B := by
  obtain ⟨ps, h1, h2⟩ := lit_must (sv := B.s) h
  exact ⟨by rw [hF]; exact g5, ps, _, by rw [hF]; exact h1, by rw [hF]; exact h2⟩
theorem is_lit {B : Base} (hF : B.F = G) {es gs : List SX} {e : Int} (h : chkS es gs e = true) : (Fact.is (.fn 5 [.lit 6 es, .lit 3 gs, .con (.int .i64 e)] 0) (.int .i64 0)).holds B := by
  obtain ⟨ps, h1, h2⟩ := lit_must (sv := B.s) h
  show B.ev _ = _
  rw [Base.ev, hF]
  simp only [SX.ev, h1, h2, Option.bind_some]
  rfl
theorem fn_beg {B : Base} (hF : B.F = G) : (Fact.fn 9 (ETrue 7) []).holds B := ⟨by rw [hF]; exact u7, [], _, rfl, by rw [hF]; exact G7⟩
theorem is_beg {B : Base} (hF : B.F = G) : (Fact.is (.fn 7 [] 0) (.bool true)).holds B := by
  show B.ev _ = _
  rw [Base.ev, hF]
  simp only [SX.ev, evs, G7, Option.bind_some]
  rfl
theorem told (k0 : Nat) : ToldF 6 (ETrue k0) (spec RTrue) := by
  refine told_of mixed_ok names_ok G [] ?_
  intro ps qs h _
  obtain ⟨rfl, rfl⟩ := of_spec h
  refine ⟨_, _, _, _, _, _, orcB_ok, ran, fun w FP x hx => ?_, rfl⟩
  simp only [List.mem_cons, List.not_mem_nil, or_false] at hx
  rcases hx with rfl | rfl | rfl | rfl | rfl | rfl | rfl | rfl | rfl | rfl | rfl | rfl | rfl | rfl | rfl | rfl | rfl | rfl | rfl | rfl | rfl | rfl | rfl | rfl | rfl | rfl | rfl | rfl | rfl | rfl | rfl | rfl | rfl | rfl | rfl | rfl | rfl | rfl | rfl | rfl
  all_goals first
    | exact fx_lit rfl (by kernel_rfl)
    | exact is_lit rfl (by kernel_rfl)
    | exact fn_beg rfl
    | exact is_beg rfl
    | exact ⟨_, rfl, rfl⟩
theorem walk (w : World) : Calls Try.prog 6 #[] w fun e w' => e = .returned (.bool true) ∧ Ex w w' := by
  exact told_true (told 0) rfl (us := []) (ps := []) (spec_of fTrue ⟨rfl, rfl⟩) rfl rfl (fun i p u hp hu => by simp at hp)
end Go.Proofs.Ytnelcjofgpplgaa.stateForms
