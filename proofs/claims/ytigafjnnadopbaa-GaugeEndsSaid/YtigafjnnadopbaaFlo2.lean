/- Contracts of package gauge, second part: over slices. -/
import Derived.Test.YtigafjnnadopbaaFlo
import Derived.LoopTactic
namespace Go.Proofs.Ytigafjnnadopbaa.flo
open Go.RowKit

def Fits64 (zs : List Nat) : Prop := ∀ z ∈ zs, z < 18446744073709551616
theorem Fits64.at {zs : List Nat} (h : Fits64 zs) {i : Nat} (hi : i < zs.length) : zs.getD i 0 < 18446744073709551616 := h _ (getD_mem hi)

/-- It tells a float of which P is so. -/
def Tells (P : Nat → Prop) (w : World) (e : Ending) (w' : World) : Prop := ∃ x, e = .returned (.float .f64 x) ∧ P x ∧ w = w'
def TellsEx (P : Nat → Prop) (w : World) (e : Ending) (w' : World) : Prop := ∃ x, e = .returned (.float .f64 x) ∧ P x ∧ Ex w w'

def LeastOf (zs : List Nat) (x : Nat) : Prop := x ∈ zs ∧ ∀ z ∈ zs, okey x ≤ okey z
def MostOf (zs : List Nat) (x : Nat) : Prop := x ∈ zs ∧ ∀ z ∈ zs, okey z ≤ okey x
theorem take_step {zs : List Nat} {k : Nat} (h : k < zs.length) : zs.take (k + 1) = zs.take k ++ [zs.getD k 0] := by
  rw [List.take_succ_eq_append_getElem h]; simp [List.getD, h]
theorem LeastOf.one {zs : List Nat} (h : 0 < zs.length) : LeastOf (zs.take 1) (zs.getD 0 0) := by
  rw [take_step h]; simp [LeastOf]
theorem MostOf.one {zs : List Nat} (h : 0 < zs.length) : MostOf (zs.take 1) (zs.getD 0 0) := by
  rw [take_step h]; simp [MostOf]
theorem LeastOf.less {zs : List Nat} {k x : Nat} (hk : k < zs.length) (h : LeastOf (zs.take k) x) (hl : ordI (zs.getD k 0) x < 0) : LeastOf (zs.take (k + 1)) (zs.getD k 0) := by
  rw [take_step hk]
  have : okey (zs.getD k 0) < okey x := ordI_lt.1 (by have := ordI_bd (zs.getD k 0) x; omega)
  refine ⟨by simp, fun z hz => ?_⟩
  rcases List.mem_append.1 hz with hz | hz
  · have := h.2 z hz; omega
  · simp at hz; subst hz; exact Int.le_refl _
theorem LeastOf.keep {zs : List Nat} {k x : Nat} (hk : k < zs.length) (h : LeastOf (zs.take k) x) (hl : ¬ ordI (zs.getD k 0) x < 0) : LeastOf (zs.take (k + 1)) x := by
  rw [take_step hk]
  have : ¬ okey (zs.getD k 0) < okey x := fun c => hl (by rw [ordI_lt.2 c]; omega)
  refine ⟨List.mem_append_left _ h.1, fun z hz => ?_⟩
  rcases List.mem_append.1 hz with hz | hz
  · exact h.2 z hz
  · simp at hz; subst hz; simp at this; exact this
theorem MostOf.more {zs : List Nat} {k x : Nat} (hk : k < zs.length) (h : MostOf (zs.take k) x) (hl : 0 < ordI (zs.getD k 0) x) : MostOf (zs.take (k + 1)) (zs.getD k 0) := by
  rw [take_step hk]
  have : okey x < okey (zs.getD k 0) := ordI_lt.1 (by have := ordI_bd (zs.getD k 0) x; have := ordI_neg (zs.getD k 0) x; omega)
  refine ⟨by simp, fun z hz => ?_⟩
  rcases List.mem_append.1 hz with hz | hz
  · have := h.2 z hz; omega
  · simp at hz; subst hz; exact Int.le_refl _
theorem MostOf.keep {zs : List Nat} {k x : Nat} (hk : k < zs.length) (h : MostOf (zs.take k) x) (hl : ¬ 0 < ordI (zs.getD k 0) x) : MostOf (zs.take (k + 1)) x := by
  rw [take_step hk]
  have : ¬ okey x < okey (zs.getD k 0) := fun c => hl (by have := ordI_lt.2 c; have := ordI_neg (zs.getD k 0) x; omega)
  refine ⟨List.mem_append_left _ h.1, fun z hz => ?_⟩
  rcases List.mem_append.1 hz with hz | hz
  · exact h.2 z hz
  · simp at hz; subst hz; simp at this; exact this

def RMin (zs : List Nat) (m i : Value) : Prop := ∃ k x : Nat, 1 ≤ k ∧ k ≤ zs.length ∧ i = .int .i64 k ∧ m = .float .f64 x ∧ x < 18446744073709551616 ∧ LeastOf (zs.take k) x
def RMax (zs : List Nat) (m i : Value) : Prop := ∃ k x : Nat, 1 ≤ k ∧ k ≤ zs.length ∧ i = .int .i64 k ∧ m = .float .f64 x ∧ x < 18446744073709551616 ∧ MostOf (zs.take k) x

theorem min_any (v : Value) (zs : List Nat) (w : World) (h : RowV w v (f64s zs)) (hf : Fits64 zs) (hne : 0 < zs.length) :
    Calls Try.prog 20 #[v, .func (.func 9) #[] #[]] w (Tells (LeastOf zs) w) := by
  obtain ⟨a, cap, rfl, h1, h2, h3⟩ := h
  simp only [f64s_length] at h1 h3
  unfold maxLen at h2
  obtain ⟨b, off, rfl, hc⟩ := h3 hne
  have hc' : ∀ i, i < zs.length → w.cell? ⟨b, off + i, none⟩ = some (.float .f64 (zs.getD i 0)) := fun i hi => hc i _ (f64s_get zs i hi)
  clear hc h3
  simp only [f64s_length]
  have c0 : w.cell? ⟨b, off, none⟩ = some (.float .f64 (zs.getD 0 0)) := by simpa using hc' 0 hne
  have L0 := LeastOf.one hne
  have F0 := hf.at hne
  generalize zs.getD 0 0 = z0 at c0 L0 F0
  go_enter Try.func20, Try.ntmps20
  go_wp2_with fail
  go_loop [5, 6] (RMin zs) (fun _ i => zs.length - (intOf i).toNat)
  case atStart => exact ⟨1, _, by omega, by omega, rfl, rfl, F0, L0⟩
  case round =>
    obtain ⟨k, x, hk1, hk2, rfl, rfl, hx, hl⟩ := hrel
    clear c0 L0 F0
    by_cases hlt : k < zs.length
    · have ck := hc' k hlt
      have fk := hf.at hlt
      have LL := Lib.hid (fun c => LeastOf.less hlt hl c)
      have LK := Lib.hid (fun c => LeastOf.keep hlt hl c)
      have i0 : (0 : Int) ≤ (k : Int) := by omega
      have i1 : (k : Int) < (zs.length : Int) := by omega
      clear hl hc'
      generalize zs.getD k 0 = z at *
      by_cases hcmp : ordI z x < 0
      · have d : decide (ordI z x < 0) = true := decide_eq_true hcmp
        have HC := Lib.hid hcmp
        clear hcmp
        go_wp2_with fail
        refine (order_any z x fk hx _).mono ?_
        rintro e w' ⟨rfl, rfl⟩
        go_wp2_with fail
        go_round
        case rel => exact ⟨k + 1, z, by omega, by omega, by go_num, rfl, fk, LL.out HC.out⟩
        case measure => simp [intOf]; omega
      · have d : decide (ordI z x < 0) = false := decide_eq_false hcmp
        have HC := Lib.hid hcmp
        clear hcmp
        go_wp2_with fail
        refine (order_any z x fk hx _).mono ?_
        rintro e w' ⟨rfl, rfl⟩
        go_wp2_with fail
        go_round
        case rel => exact ⟨k + 1, x, by omega, by omega, by go_num, rfl, hx, LK.out HC.out⟩
        case measure => simp [intOf]; omega
    · have hk : k = zs.length := by omega
      have HL := Lib.hid hl
      have HK := Lib.hid hk
      clear hk hl hc'
      go_wp2_with fail
      go_ret
      exact ⟨x, rfl, by have := HL.out; rw [HK.out, List.take_length] at this; exact this, rfl⟩

theorem max_any (v : Value) (zs : List Nat) (w : World) (h : RowV w v (f64s zs)) (hf : Fits64 zs) (hne : 0 < zs.length) :
    Calls Try.prog 21 #[v, .func (.func 9) #[] #[]] w (Tells (MostOf zs) w) := by
  obtain ⟨a, cap, rfl, h1, h2, h3⟩ := h
  simp only [f64s_length] at h1 h3
  unfold maxLen at h2
  obtain ⟨b, off, rfl, hc⟩ := h3 hne
  have hc' : ∀ i, i < zs.length → w.cell? ⟨b, off + i, none⟩ = some (.float .f64 (zs.getD i 0)) := fun i hi => hc i _ (f64s_get zs i hi)
  clear hc h3
  simp only [f64s_length]
  have c0 : w.cell? ⟨b, off, none⟩ = some (.float .f64 (zs.getD 0 0)) := by simpa using hc' 0 hne
  have L0 := MostOf.one hne
  have F0 := hf.at hne
  generalize zs.getD 0 0 = z0 at c0 L0 F0
  go_enter Try.func21, Try.ntmps21
  go_wp2_with fail
  go_loop [5, 6] (RMax zs) (fun _ i => zs.length - (intOf i).toNat)
  case atStart => exact ⟨1, _, by omega, by omega, rfl, rfl, F0, L0⟩
  case round =>
    obtain ⟨k, x, hk1, hk2, rfl, rfl, hx, hl⟩ := hrel
    clear c0 L0 F0
    by_cases hlt : k < zs.length
    · have ck := hc' k hlt
      have fk := hf.at hlt
      have LL := Lib.hid (fun c => MostOf.more hlt hl c)
      have LK := Lib.hid (fun c => MostOf.keep hlt hl c)
      have i0 : (0 : Int) ≤ (k : Int) := by omega
      have i1 : (k : Int) < (zs.length : Int) := by omega
      clear hl hc'
      generalize zs.getD k 0 = z at *
      by_cases hcmp : 0 < ordI z x
      · have d : decide (0 < ordI z x) = true := decide_eq_true hcmp
        have HC := Lib.hid hcmp
        clear hcmp
        go_wp2_with fail
        refine (order_any z x fk hx _).mono ?_
        rintro e w' ⟨rfl, rfl⟩
        go_wp2_with fail
        go_round
        case rel => exact ⟨k + 1, z, by omega, by omega, by go_num, rfl, fk, LL.out HC.out⟩
        case measure => simp [intOf]; omega
      · have d : decide (0 < ordI z x) = false := decide_eq_false hcmp
        have HC := Lib.hid hcmp
        clear hcmp
        go_wp2_with fail
        refine (order_any z x fk hx _).mono ?_
        rintro e w' ⟨rfl, rfl⟩
        go_wp2_with fail
        go_round
        case rel => exact ⟨k + 1, x, by omega, by omega, by go_num, rfl, hx, LK.out HC.out⟩
        case measure => simp [intOf]; omega
    · have hk : k = zs.length := by omega
      have HL := Lib.hid hl
      have HK := Lib.hid hk
      clear hk hl hc'
      go_wp2_with fail
      go_ret
      exact ⟨x, rfl, by have := HL.out; rw [HK.out, List.take_length] at this; exact this, rfl⟩

theorem least_any (v : Value) (zs : List Nat) (w : World) (h : RowV w v (f64s zs)) (hf : Fits64 zs) (hne : 0 < zs.length) :
    Calls Try.prog 10 #[v] w (Tells (LeastOf zs) w) := by
  have HR := Lib.hid h
  obtain ⟨a, cap, rfl, h1, h2⟩ := h.len
  clear h
  simp only [f64s_length] at h1 HR ⊢
  unfold maxLen at h2
  have d : ((zs.length : Int) == 0) = false := beq_eq_false_iff_ne.2 (by omega)
  go_enter Try.func10, Try.ntmps10
  go_wp2_with fail
  refine (min_any _ zs _ HR.out hf hne).mono ?_
  rintro e w' ⟨x, rfl, hx, rfl⟩
  have HX := Lib.hid hx
  clear hx
  go_wp2_with fail
  go_ret
  exact ⟨x, rfl, HX.out, rfl⟩
theorem most_any (v : Value) (zs : List Nat) (w : World) (h : RowV w v (f64s zs)) (hf : Fits64 zs) (hne : 0 < zs.length) :
    Calls Try.prog 11 #[v] w (Tells (MostOf zs) w) := by
  have HR := Lib.hid h
  obtain ⟨a, cap, rfl, h1, h2⟩ := h.len
  clear h
  simp only [f64s_length] at h1 HR ⊢
  unfold maxLen at h2
  have d : ((zs.length : Int) == 0) = false := beq_eq_false_iff_ne.2 (by omega)
  go_enter Try.func11, Try.ntmps11
  go_wp2_with fail
  refine (max_any _ zs _ HR.out hf hne).mono ?_
  rintro e w' ⟨x, rfl, hx, rfl⟩
  have HX := Lib.hid hx
  clear hx
  go_wp2_with fail
  go_ret
  exact ⟨x, rfl, HX.out, rfl⟩

def RSum (w : World) (zs : List Nat) (s i : Value) (wr : World) : Prop := ∃ k x : Nat, k ≤ zs.length ∧ i = .int .i64 k ∧ s = .float .f64 x ∧ IsF (sumF (zs.take k)) x ∧ Ex w wr
theorem sum_any (v : Value) (zs : List Nat) (w : World) (h : RowV w v (f64s zs)) :
    Calls Try.prog 12 #[v] w (TellsEx (IsF (sumF zs)) w) := by
  obtain ⟨a, cap, rfl, h1, h2, h3⟩ := h
  simp only [f64s_length] at h1 h3 ⊢
  unfold maxLen at h2
  go_enter Try.func12, Try.ntmps12
  go_wp2_with fail
  go_loopw [3, 8] (RSum w zs) (fun _ i _ => zs.length - (intOf i).toNat)
  case atStart => exact ⟨0, 0, by omega, rfl, rfl, IsF.start, Ex.refl _⟩
  case round =>
    obtain ⟨k, x, hk, rfl, rfl, hs, gk⟩ := hrel
    by_cases hlt : k < zs.length
    · obtain ⟨b, off, rfl, hc⟩ := h3 (by omega)
      have ck := gk.on (hc k _ (f64s_get zs k hlt))
      have i0 : (0 : Int) ≤ (k : Int) := by omega
      have i1 : (k : Int) < (zs.length : Int) := by omega
      obtain ⟨r, n, hrun, hr⟩ := run_float_any (P := Try.prog) wr .add 22 x (zs.getD k 0) (.inl rfl)
      have HN := Lib.hid (show IsF (sumF (zs.take (k + 1))) r by rw [take_step hlt, sumF_snoc]; exact hs.add hr)
      clear hs hr hc h3
      generalize zs.getD k 0 = z at *
      go_wp2_with fail
      go_roundw
      case rel => exact ⟨k + 1, r, by omega, by go_num, rfl, HN.out, Ex.trans gk (Ex.drewN _ _)⟩
      case measure => simp [intOf]; omega
    · have hk : k = zs.length := by omega
      have HS := Lib.hid hs
      have HK := Lib.hid hk
      clear hk hs h3
      go_wp2_with fail
      go_ret
      exact ⟨x, rfl, by have := HS.out; rw [HK.out, List.take_length] at this; exact this, gk⟩
theorem mean_any (v : Value) (zs : List Nat) (w : World) (h : RowV w v (f64s zs)) :
    Calls Try.prog 13 #[v] w (TellsEx (IsF (fdiv (sumF zs) (floatOfInt .f64 (zs.length : Int)))) w) := by
  have HR := Lib.hid h
  obtain ⟨a, cap, rfl, h1, h2⟩ := h.len
  clear h
  simp only [f64s_length] at h1 HR ⊢
  unfold maxLen at h2
  go_enter Try.func13, Try.ntmps13
  go_wp2_with fail
  refine (sum_any _ zs _ HR.out).mono ?_
  rintro e w' ⟨x, rfl, hx, g1⟩
  obtain ⟨r, n, hrun, hr⟩ := run_float_any (P := Try.prog) w' .quo 22 x (floatOfInt .f64 (zs.length : Int)) (.inr (.inr rfl))
  have HX := Lib.hid (hx.div hr)
  clear hx hr
  go_wp2_with fail
  go_ret
  exact ⟨r, rfl, HX.out, Ex.trans g1 (Ex.drewN _ _)⟩

end Go.Proofs.Ytigafjnnadopbaa.flo
