/- Contracts of package bits, fourth part: numbers and texts taken. -/
import Derived.Test.YtkeeembielogfaaBit3
import Derived.Laws.IdiomStrings
import Derived.Lib.BufferRead
namespace Go.Proofs.Ytkeeembielogfaa.bit
open Go.RowKit

theorem add_off (b off j : Nat) : (⟨b, off, none⟩ : Addr).add j = ⟨b, off + j, none⟩ := by unfold Addr.add; split <;> simp_all
/-- A slice of bytes as a text. -/
theorem conv_row (v : Value) (zs : List Nat) (w : World) (h : RowV w v (u8s zs)) (hz : ∀ z ∈ zs, z < 256) :
    (convert 22 9 v).run Try.prog w = .ok (.string (ofN zs)) w := by
  obtain ⟨a, cap, rfl, h1, h2, h3⟩ := h
  rw [u8s_length]
  rcases a with _ | ad
  · have : zs = [] := by
      rcases Nat.eq_zero_or_pos zs.length with h0 | h0
      · exact List.eq_nil_of_length_eq_zero h0
      · obtain ⟨b, off, h, _⟩ := h3 (by rw [u8s_length]; exact h0)
        cases h
    subst this
    exact Lib.run_convert_nil_bytes w _ _ 5 cap Try.underlying22 Try.underlying5 Try.underlying9
  · have hl : zs.length = (zs.map UInt8.ofNat).length := by simp
    rw [hl]
    refine run_convert_bytes_back w _ _ 5 ad cap (zs.map UInt8.ofNat) Try.underlying22 Try.underlying5 Try.underlying9 fun j hj => ?_
    rw [← hl] at hj
    obtain ⟨b, off, h, hc⟩ := h3 (by rw [u8s_length]; omega)
    cases h
    have := hc j _ (u8s_get zs j hj)
    rw [add_off, this]
    have hzj := hz _ (getD_mem hj)
    simp only [List.getElem_map]
    have e : zs[j] = zs.getD j 0 := by simp [List.getD, hj]
    rw [e]
    show _ = some (Value.int .u8 (((zs.getD j 0) % 256 : Nat) : Int))
    rw [Nat.mod_eq_of_lt hzj]

theorem RowV.addr {w : World} {a : Option Addr} {n cap : Nat} {xs : List Value} (h : RowV w (.slice a n cap) xs) (h0 : 0 < n) : ∃ b off, a = some ⟨b, off, none⟩ := by
  obtain ⟨a', cap', e, _, _, h3⟩ := h
  simp only [Value.slice.injEq] at e
  obtain ⟨rfl, rfl, _⟩ := e
  obtain ⟨b, off, e', _⟩ := h3 h0
  exact ⟨b, off, e'⟩
theorem RowV.drop1 {w : World} {b off n cap : Nat} {xs : List Nat} (h : RowV w (.slice (some ⟨b, off, none⟩) n cap) (u8s xs)) : RowV w (.slice (some ⟨b, off + 1, none⟩) (n - 1) (cap - 1)) (u8s (xs.drop 1)) := by
  have h0 := h
  obtain ⟨a', cap', e, h1, h2, _⟩ := h
  simp only [Value.slice.injEq] at e
  obtain ⟨rfl, rfl, rfl⟩ := e
  simp only [u8s_length] at h1 h0 ⊢
  refine ⟨_, cap - 1, by simp, by simp; omega, by omega, fun hp => ⟨b, off + 1, rfl, fun i u hu => ?_⟩⟩
  rw [u8s_drop, List.getElem?_drop] at hu
  have := h0.at hu
  rwa [← Nat.add_assoc] at this

/-- What a guarded call answers: what the inner one answers, and yes; or nought and no where it panics. -/
def Inner (R : Value → Bool → World → Prop) (zero : Value) (e : Ending) (w' : World) : Prop :=
  match e with
  | .returned v => R v true w'
  | .panicked [{ v := .iface _ _, recovered := false, goexit := false }] => R zero false w'
  | _ => False
def Outer (R : Value → Bool → World → Prop) (e : Ending) (w' : World) : Prop := ∃ v b, e = .returned (.tuple #[v, .bool b]) ∧ R v b w'

theorem rec_panic_int (u : TypeId) (pv : Value) (older : List PanicEntry) (w : World) :
    CallsD Try.prog 24 #[] (.panicking ({ v := .iface u pv, recovered := false } :: older)) w fun e u' w' =>
      e = .returned (.tuple #[]) ∧ u' = .panicking ({ v := .iface u pv, recovered := true } :: older) ∧ w' = w := by
  refine callsD_of_wpS Try.func24 rfl fun c₀ cs hu => ?_
  apply wpS_region
  simp [wpOpsS, go_sem, recoverD, hu, Try.ntmps24, bodyPostS, results, Try.results24]
theorem rec_idle_int (w : World) :
    CallsD Try.prog 24 #[] .returning w fun e u' w' => e = .returned (.tuple #[]) ∧ u' = .returning ∧ w' = w := by
  refine callsD_of_wpS Try.func24 rfl fun c₀ cs hu => ?_
  apply wpS_region
  simp [wpOpsS, go_sem, recoverD, hu, Try.ntmps24, bodyPostS, results, Try.results24]
  cases c₀
  simp_all
theorem rec_panic_str (u : TypeId) (pv : Value) (older : List PanicEntry) (w : World) :
    CallsD Try.prog 26 #[] (.panicking ({ v := .iface u pv, recovered := false } :: older)) w fun e u' w' =>
      e = .returned (.tuple #[]) ∧ u' = .panicking ({ v := .iface u pv, recovered := true } :: older) ∧ w' = w := by
  refine callsD_of_wpS Try.func26 rfl fun c₀ cs hu => ?_
  apply wpS_region
  simp [wpOpsS, go_sem, recoverD, hu, Try.ntmps26, bodyPostS, results, Try.results26]
theorem rec_idle_str (w : World) :
    CallsD Try.prog 26 #[] .returning w fun e u' w' => e = .returned (.tuple #[]) ∧ u' = .returning ∧ w' = w := by
  refine callsD_of_wpS Try.func26 rfl fun c₀ cs hu => ?_
  apply wpS_region
  simp [wpOpsS, go_sem, recoverD, hu, Try.ntmps26, bodyPostS, results, Try.results26]
  cases c₀
  simp_all

theorem orNo_int (fid : FuncId) (cap : Array Value) (w : World) (R : Value → Bool → World → Prop) (hc : ∀ w, (callFunc fid cap).run Try.prog w = .ok (.enter fid cap) w)
    (h : Calls Try.prog fid cap w (Inner R (.int .i64 0))) :
    Calls Try.prog 15 #[.func (.func fid) #[] cap] w (Outer R) := by
  have H := Lib.hid h
  clear h
  go_enter_defers Try.func15, Try.ntmps15
  go_wp2_with fail
  refine H.out.mono ?_
  intro e w' he
  unfold Inner at he
  split at he
  · go_wp2_with fail
    refine leaves_cons (f := 24) (args := #[]) (by simp) (by simp [go_sem]) ?_
    refine (rec_idle_int _).mono ?_
    rintro e u' w'' ⟨rfl, rfl, rfl⟩
    simp [Leaves, settle, results, Try.results15, go_sem, Outer]
    exact he
  · refine leaves_cons (f := 24) (args := #[]) (by simp) (by simp [go_sem]) ?_
    refine (rec_panic_int _ _ _ _).mono ?_
    rintro e u' w'' ⟨rfl, rfl, rfl⟩
    simp [Leaves, settle, results, Try.results15, go_sem, Outer]
    exact he
  · exact he.elim
theorem orNo_str (fid : FuncId) (cap : Array Value) (w : World) (R : Value → Bool → World → Prop) (hc : ∀ w, (callFunc fid cap).run Try.prog w = .ok (.enter fid cap) w)
    (h : Calls Try.prog fid cap w (Inner R (.string ⟨#[]⟩))) :
    Calls Try.prog 21 #[.func (.func fid) #[] cap] w (Outer R) := by
  have H := Lib.hid h
  clear h
  go_enter_defers Try.func21, Try.ntmps21
  go_wp2_with fail
  refine H.out.mono ?_
  intro e w' he
  unfold Inner at he
  split at he
  · go_wp2_with fail
    refine leaves_cons (f := 26) (args := #[]) (by simp) (by simp [go_sem]) ?_
    refine (rec_idle_str _).mono ?_
    rintro e u' w'' ⟨rfl, rfl, rfl⟩
    simp [Leaves, settle, results, Try.results21, go_sem, Outer]
    exact he
  · refine leaves_cons (f := 26) (args := #[]) (by simp) (by simp [go_sem]) ?_
    refine (rec_panic_str _ _ _ _).mono ?_
    rintro e u' w'' ⟨rfl, rfl, rfl⟩
    simp [Leaves, settle, results, Try.results21, go_sem, Outer]
    exact he
  · exact he.elim

theorem callTake (cap : Array Value) (w : World) : (callFunc 16 cap).run Try.prog w = .ok (.enter 16 cap) w := by
  simp [go_sem]
theorem callText (cap : Array Value) (w : World) : (callFunc 22 cap).run Try.prog w = .ok (.enter 22 cap) w := by
  simp [go_sem]

def GivesI (w : World) (zs : List Nat) (n : Int) (v : Value) (b : Bool) (w' : World) : Prop := v = .int .i64 (taken zs n : Nat) ∧ b = mayTake zs.length n ∧ Ex w w'

theorem take_in (v : Value) (zs : List Nat) (n : Int) (pn pb : Addr) (w : World) (hr : RowV w v (u8s zs)) (hz : ∀ z ∈ zs, z < 256) (hn : w.cell? pn = some (.int .i64 n)) (hb : w.cell? pb = some v) :
    Calls Try.prog 16 #[.pointer (some pn), .pointer (some pb)] w (Inner (GivesI w zs n) (.int .i64 0)) := by
  have HR := Lib.hid hr
  obtain ⟨a, cap, rfl, h1, h2⟩ := RowV.len8 hr
  have HZ := Lib.hid hz
  clear hr hz
  by_cases hm : 1 ≤ n ∧ n ≤ 7
  · obtain ⟨m1, m7⟩ := hm
    have d1 : decide (n < 1) = false := decide_eq_false (by omega)
    have d2 : decide (7 < n) = false := decide_eq_false (by omega)
    by_cases hl : n ≤ zs.length
    · have HT := Lib.hid (show taken zs n = num (zs.take n.toNat) ∧ true = mayTake zs.length n by
        have : mayTake zs.length n = true := decide_eq_true ⟨m1, m7, hl⟩
        exact ⟨by unfold taken; rw [if_pos this], this.symm⟩)
      go_enter Try.func16, Try.ntmps16
      go_wp2_with fail
      refine (front_row _ zs n _ HR.out (by omega) hl).mono ?_
      rintro e w' ⟨u, rfl, hu, rfl⟩
      obtain ⟨a', cap', rfl, _, _⟩ := RowV.len8 hu
      have HU := Lib.hid hu
      clear hu
      have hlt : (zs.take n.toNat).length ≤ 7 := by have := List.length_take_le n.toNat zs; omega
      generalize hT : zs.take n.toNat = ts at *
      have HT2 := Lib.hid hT
      clear hT
      go_wp2_with fail
      refine (number_any _ ts _ HU.out (fun z h => HZ.out z (by rw [← HT2.out] at h; exact List.mem_of_mem_take h)) hlt).mono ?_
      rintro e w' ⟨rfl, rfl⟩
      go_wp2_with fail
      go_ret
      exact ⟨by rw [HT.out.1]; rfl, HT.out.2, Ex.refl _⟩
    · have HT := Lib.hid (show taken zs n = 0 ∧ false = mayTake zs.length n by
        have : mayTake zs.length n = false := decide_eq_false (by omega)
        exact ⟨by unfold taken; rw [this]; rfl, this.symm⟩)
      go_enter Try.func16, Try.ntmps16
      go_wp2_with fail
      refine (front_none _ zs n _ HR.out (by omega)).mono ?_
      rintro e w' ⟨u, v, rfl, rfl⟩
      exact ⟨rfl, by rw [HT.out.1]; rfl, HT.out.2, Ex.refl _⟩
  · have HT := Lib.hid (show taken zs n = 0 ∧ false = mayTake zs.length n by
      have : mayTake zs.length n = false := decide_eq_false (by omega)
      exact ⟨by unfold taken; rw [this]; rfl, this.symm⟩)
    by_cases h1 : n < 1
    · have d1 : decide (n < 1) = true := decide_eq_true h1
      clear hm
      go_enter Try.func16, Try.ntmps16
      go_wp2
      exact ⟨rfl, by rw [HT.out.1]; rfl, HT.out.2, Ex.refl _⟩
    · have d1 : decide (n < 1) = false := decide_eq_false h1
      have d2 : decide (7 < n) = true := decide_eq_true (by omega)
      clear hm
      go_enter Try.func16, Try.ntmps16
      go_wp2
      exact ⟨rfl, by rw [HT.out.1]; rfl, HT.out.2, Ex.refl _⟩

/-- Take. -/
def TellsTake (w : World) (zs : List Nat) (n : Int) (e : Ending) (w' : World) : Prop := e = .returned (.tuple #[.int .i64 (taken zs n : Nat), .bool (mayTake zs.length n)]) ∧ Ex w w'
theorem take_any (v : Value) (zs : List Nat) (n : Int) (w : World) (hr : RowV w v (u8s zs)) (hz : ∀ z ∈ zs, z < 256) :
    Calls Try.prog 7 #[v, .int .i64 n] w (TellsTake w zs n) := by
  obtain ⟨a, cap, rfl, h1, h2⟩ := RowV.len8 hr
  have ga : Ex w ((w.alloc (.cells #[.slice a zs.length cap] 22)).alloc (.cells #[.int .i64 n] 3)) := ((Below.refl _ _).alloc (Nat.le_refl _) _).alloc (by simp) _
  have HI := Lib.hid (take_in _ zs n ⟨w.heap.size + 1, 0, none⟩ ⟨w.heap.size, 0, none⟩ _ (hr.ex ga) hz (by simp [go_sem]) (by simp [go_sem]))
  clear hr hz
  have hmf : ∀ (fn : Fn) (first cap : Array Value) (w : World), (Instr.makeFunc fn first cap).run Try.prog w = .ok (.func fn first cap) w := fun _ _ _ _ => rfl
  go_enter Try.func7, Try.ntmps7
  go_wp2_with fail
  refine (orNo_int _ _ _ _ (callTake _) HI.out).mono ?_
  rintro e w' ⟨v, b, rfl, rfl, rfl, g⟩
  go_wp2_with fail
  go_ret2
  exact ⟨rfl, Ex.trans ga g⟩

def GivesS (w : World) (zs : List Nat) (v : Value) (b : Bool) (w' : World) : Prop := v = .string (ofN (text zs)) ∧ b = mayText zs ∧ Ex w w'

theorem text_in (v : Value) (zs : List Nat) (pb : Addr) (w : World) (hr : RowV w v (u8s zs)) (hz : ∀ z ∈ zs, z < 256) (hb : w.cell? pb = some v) :
    Calls Try.prog 22 #[.pointer (some pb)] w (Inner (GivesS w zs) (.string ⟨#[]⟩)) := by
  have HR := Lib.hid hr
  have HZ := Lib.hid hz
  by_cases h0 : 1 ≤ zs.length
  · obtain ⟨a, cap, rfl, h1, h2⟩ := RowV.len8 hr
    have hz0 := hz _ (getD_mem h0)
    have HF := Lib.hid (show zs.take (1 : Int).toNat = [zs.getD 0 0] by
      obtain _ | ⟨z, zs⟩ := zs
      · simp at h0
      · simp)
    clear hr hz
    by_cases hl : zs.getD 0 0 + 1 ≤ zs.length
    · have HT := Lib.hid (show text zs = (zs.take (zs.getD 0 0 + 1)).drop 1 ∧ true = mayText zs by
        have : mayText zs = true := decide_eq_true ⟨h0, hl⟩
        exact ⟨by unfold text; rw [if_pos this], this.symm⟩)
      generalize zs.getD 0 0 = z at *
      go_enter Try.func22, Try.ntmps22
      go_wp2_with fail
      refine (front_row _ zs 1 _ HR.out (by omega) (by omega)).mono ?_
      rintro e w' ⟨u, rfl, hu, rfl⟩
      rw [HF.out] at hu
      obtain ⟨a', cap', rfl, _, _⟩ := RowV.len8 hu
      have HU := Lib.hid hu
      clear hu
      go_wp2_with fail
      refine (number_any _ [z] _ HU.out (by intro x hx; simp at hx; omega) (by simp)).mono ?_
      rintro e w' ⟨rfl, rfl⟩
      rw [num_one]
      go_wp2_with fail
      refine (front_row _ zs (1 + (z : Int)) _ HR.out (by omega) (by omega)).mono ?_
      rintro e w' ⟨u, rfl, hu, rfl⟩
      have htl : (zs.take (1 + (z : Int)).toNat).length = z + 1 := by rw [List.length_take]; omega
      rw [show (1 + (z : Int)).toNat = z + 1 by omega] at hu htl
      obtain ⟨a2, cap2, rfl, g1, g2⟩ := RowV.len8 hu
      rw [htl] at g1 hu ⊢
      have HZ2 := Lib.hid (show ∀ x ∈ (zs.take (z + 1)).drop 1, x < 256 from fun x hx => HZ.out x (List.mem_of_mem_take (List.mem_of_mem_drop hx)))
      by_cases hc1 : cap2 = 1
      · subst hc1
        have hz0 : z = 0 := by omega
        have HE : (zs.take (z + 1)).drop 1 = [] := List.eq_nil_of_length_eq_zero (by rw [List.length_drop, htl]; omega)
        subst hz0
        have hcv := conv_row (.slice a2 0 0) [] w ⟨a2, 0, rfl, Nat.le_refl _, Nat.zero_le _, fun h => absurd h (Nat.lt_irrefl _)⟩ (by simp)
        have HE2 := Lib.hid HE
        clear hu htl HE
        go_wp2_with fail
        go_ret
        exact ⟨by rw [HT.out.1, HE2.out]; rfl, HT.out.2, Ex.refl _⟩
      · obtain ⟨b, off, rfl⟩ := RowV.addr hu (by omega)
        have hcv := conv_row _ _ w (RowV.drop1 hu) HZ2.out
        have hce : ((zs.take (z + 1)).drop 1).length = z := by rw [List.length_drop, htl]; omega
        clear hu htl
        generalize (zs.take (z + 1)).drop 1 = T at *
        rw [Nat.add_sub_cancel] at hcv
        clear hce
        go_wp2_with fail
        go_ret
        exact ⟨by rw [HT.out.1]; rfl, HT.out.2, Ex.refl _⟩
    · have HT := Lib.hid (show text zs = [] ∧ false = mayText zs by
        have : mayText zs = false := decide_eq_false (by omega)
        exact ⟨by unfold text; rw [this]; rfl, this.symm⟩)
      generalize zs.getD 0 0 = z at *
      go_enter Try.func22, Try.ntmps22
      go_wp2_with fail
      refine (front_row _ zs 1 _ HR.out (by omega) (by omega)).mono ?_
      rintro e w' ⟨u, rfl, hu, rfl⟩
      rw [HF.out] at hu
      obtain ⟨a', cap', rfl, _, _⟩ := RowV.len8 hu
      have HU := Lib.hid hu
      clear hu
      go_wp2_with fail
      refine (number_any _ [z] _ HU.out (by intro x hx; simp at hx; omega) (by simp)).mono ?_
      rintro e w' ⟨rfl, rfl⟩
      rw [num_one]
      go_wp2_with fail
      refine (front_none _ zs (1 + (z : Int)) _ HR.out (by omega)).mono ?_
      rintro e w' ⟨u, v, rfl, rfl⟩
      exact ⟨rfl, by rw [HT.out.1]; rfl, HT.out.2, Ex.refl _⟩
  · have HT := Lib.hid (show text zs = [] ∧ false = mayText zs by
      have : mayText zs = false := decide_eq_false (by omega)
      exact ⟨by unfold text; rw [this]; rfl, this.symm⟩)
    obtain ⟨a, cap, rfl, h1, h2⟩ := RowV.len8 hr
    clear hr hz
    go_enter Try.func22, Try.ntmps22
    go_wp2_with fail
    refine (front_none _ zs 1 _ HR.out (by omega)).mono ?_
    rintro e w' ⟨u, v, rfl, rfl⟩
    exact ⟨rfl, by rw [HT.out.1]; rfl, HT.out.2, Ex.refl _⟩

theorem ret3 {a b : ByteArray} {c d : Int} {p q : Bool} (h1 : a = b) (h2 : c = d) (h3 : p = q) : Ending.returned (.tuple #[.string a, .int .i64 c, .bool p]) = .returned (.tuple #[.string b, .int .i64 d, .bool q]) := by rw [h1, h2, h3]
theorem ret2 {c d : Int} {p q : Bool} (h2 : c = d) (h3 : p = q) : Ending.returned (.tuple #[.int .i64 c, .bool p]) = .returned (.tuple #[.int .i64 d, .bool q]) := by rw [h2, h3]
/-- TakeText. -/
def TellsText (w : World) (zs : List Nat) (e : Ending) (w' : World) : Prop := e = .returned (.tuple #[.string (ofN (text zs)), .int .i64 (textN zs : Nat), .bool (mayText zs)]) ∧ Ex w w'
theorem takeText_any (v : Value) (zs : List Nat) (w : World) (hr : RowV w v (u8s zs)) (hz : ∀ z ∈ zs, z < 256) (hlen : zs.length ≤ 1000000) :
    Calls Try.prog 11 #[v] w (TellsText w zs) := by
  obtain ⟨a, cap, rfl, h1, h2⟩ := RowV.len8 hr
  have ga : Ex w (w.alloc (.cells #[.slice a zs.length cap] 22)) := (Below.refl _ _).alloc (Nat.le_refl _) _
  have HI := Lib.hid (text_in _ zs ⟨w.heap.size, 0, none⟩ _ (hr.ex ga) hz (by simp [go_sem]))
  have HN := Lib.hid (show ∀ b, b = mayText zs → (textN zs : Int) = if b = true then 1 + ((ofN (text zs)).size : Int) else 0 by
    rintro b rfl
    rw [ofN_size]
    unfold textN text
    by_cases hm : mayText zs = true
    · have := of_decide_eq_true hm
      simp only [hm, if_true]
      rw [List.length_drop, List.length_take]
      omega
    · simp only [hm]; rfl)
  have hsz : ((ofN (text zs)).size : Int) ≤ 1000000 := by
    rw [ofN_size]
    unfold text
    split
    · rw [List.length_drop, List.length_take]; omega
    · simp
  clear hr hz
  generalize hT : ofN (text zs) = T at *
  have HT := Lib.hid hT
  clear hT
  have hmf : ∀ (fn : Fn) (first cap : Array Value) (w : World), (Instr.makeFunc fn first cap).run Try.prog w = .ok (.func fn first cap) w := fun _ _ _ _ => rfl
  go_enter Try.func11, Try.ntmps11
  go_wp2_with fail
  refine (orNo_str _ _ _ _ (callText _) HI.out).mono ?_
  rintro e w' ⟨v, b, rfl, rfl, hb, g⟩
  have HB := Lib.hid hb
  clear hb
  rw [HT.out]
  rcases b with _ | _
  · go_wp2_with fail
    go_ret3
    exact ⟨ret3 HT.out.symm (HN.out _ HB.out).symm HB.out, Ex.trans ga g⟩
  · go_wp2_with fail
    go_ret3
    exact ⟨ret3 HT.out.symm (HN.out _ HB.out).symm HB.out, Ex.trans ga g⟩

end Go.Proofs.Ytkeeembielogfaa.bit
