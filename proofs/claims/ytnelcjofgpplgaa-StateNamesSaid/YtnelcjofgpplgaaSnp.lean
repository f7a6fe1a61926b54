/- Names and numbers of files, as a map has them (reckoning alone). -/
import Derived.Test.YtnelcjofgpplgaaSmy
namespace Go.Proofs.Ytnelcjofgpplgaa.sta
open Go Go.RowKit eng SX Fact fil fileFronts dirs pck may
open fileFronts
open pck hiding F F20 F21 okN
open dirs hiding shR shRl shRR flR lpR cutR f0 f1 f2 f3 m0 m1 m2
open may hiding m1 m2 m3 m4 r1 r2 r3 r4 r5
set_option linter.unusedVariables false
set_option linter.unusedSimpArgs false
set_option maxRecDepth 100000

abbrev MapM := List (ByteArray × Int)
def encN2 : Enc (ByteArray × Int) := { sz := 2, enc := fun p => [.string p.1, .int .i64 p.2], len := fun _ => rfl, one := fun _ u hu => by simp at hu; rcases hu with rfl | rfl <;> rfl, pos := by decide }
theorem n2_cons (e : ByteArray × Int) (r : MapM) : (encN2.all (e :: r)).map PV.v = .v (.string e.1) :: .v (.int .i64 e.2) :: (encN2.all r).map PV.v := by
  rw [Enc.all_cons, List.map_append]; rfl
theorem mf_no {k : ByteArray} : ∀ {M : MapM} (h : ∀ e ∈ M, e.1 ≠ k) (i : Nat), mFind ((encN2.all M).map PV.v) k i = none
  | [], _, _ => rfl
  | e :: r, h, i => by
    rw [n2_cons]
    simp only [mFind, if_neg (h e (by simp))]
    exact mf_no (fun x hx => h x (by simp [hx])) (i + 1)
theorem mf_at {k : ByteArray} : ∀ {M : MapM} {a : Nat} (i : Nat) (h : a < M.length), M[a].1 = k → (∀ b (hb : b < M.length), b < a → M[b].1 ≠ k) → mFind ((encN2.all M).map PV.v) k i = some (i + a, pI M[a].2)
  | [], a, i, h, _, _ => absurd h (by simp)
  | e :: r, 0, i, h, he, _ => by
    rw [n2_cons]
    have he : e.1 = k := he
    simp only [mFind, if_pos he]
    rfl
  | e :: r, a + 1, i, h, he, hf => by
    rw [n2_cons]
    have h0 : e.1 ≠ k := hf 0 (by simp) (by omega)
    simp only [mFind, if_neg h0]
    rw [mf_at (i + 1) (by simpa using h) (by simpa using he) (fun b hb hba => by
      have := hf (b + 1) (by simpa using hb) (by omega)
      simpa using this)]
    rw [show i + 1 + a = i + (a + 1) by omega]
    simp
section
variable {M : MapM} {k : ByteArray}
theorem m_has_no (h : ∀ e ∈ M, e.1 ≠ k) : ropPV .mhas [pRow encN2 M, pS k] = some (pB false) := by simp [ropPV, pRow, mf_no h]
theorem m_get_no (h : ∀ e ∈ M, e.1 ≠ k) : ropPV (.mget (.int .i64 0)) [pRow encN2 M, pS k] = some (pI 0) := by simp [ropPV, pRow, mf_no h]
theorem m_del_no (h : ∀ e ∈ M, e.1 ≠ k) : ropPV .mdel [pRow encN2 M, pS k] = some (pRow encN2 M) := by simp [ropPV, pRow, mf_no h]
theorem m_put_no (h : ∀ e ∈ M, e.1 ≠ k) (v : Int) : ropPV .mput [pRow encN2 M, pS k, pI v] = some (pRow encN2 (M ++ [(k, v)])) := by
  simp only [ropPV, pRow, mf_no h, Enc.all_append, List.map_append, List.length_append, List.length_cons, List.length_nil]
  rfl
theorem m_has_at {a : Nat} (h : a < M.length) (he : M[a].1 = k) (hf : ∀ b (hb : b < M.length), b < a → M[b].1 ≠ k) : ropPV .mhas [pRow encN2 M, pS k] = some (pB true) := by simp [ropPV, pRow, mf_at 0 h he hf]
theorem m_get_at {a : Nat} (h : a < M.length) (he : M[a].1 = k) (hf : ∀ b (hb : b < M.length), b < a → M[b].1 ≠ k) : ropPV (.mget (.int .i64 0)) [pRow encN2 M, pS k] = some (pI M[a].2) := by simp [ropPV, pRow, mf_at 0 h he hf]
theorem set_same {α : Type} {l : List α} {i : Nat} {x : α} (h : l[i]? = some x) : l.set i x = l := by
  apply List.ext_getElem?
  intro j
  rw [List.getElem?_set]
  split
  · rename_i e
    subst e
    split
    · exact h.symm
    · rename_i hl
      rw [List.getElem?_eq_none (by omega)] at h
      cases h
  · rfl
theorem m_put_at {a : Nat} (h : a < M.length) (he : M[a].1 = k) (hf : ∀ b (hb : b < M.length), b < a → M[b].1 ≠ k) {v : Int} (hv : v = M[a].2) : ropPV .mput [pRow encN2 M, pS k, pI v] = some (pRow encN2 M) := by
  simp only [ropPV, pRow, mf_at 0 h he hf, Nat.zero_add]
  rw [set_same]
  rw [List.getElem?_map, show 2 * a + 1 = a * encN2.sz + 1 by rw [Nat.mul_comm]; rfl, encN2.all_get M a 1 _ (List.getElem?_eq_getElem h) (by decide), hv]
  rfl
theorem n2_erase : ∀ (M : MapM) (a : Nat), a < M.length → ((((encN2.all M).map PV.v).eraseIdx (2 * a)).eraseIdx (2 * a)) = (encN2.all (M.eraseIdx a)).map PV.v
  | [], a, h => absurd h (by simp)
  | e :: r, 0, h => by rw [n2_cons]; rfl
  | e :: r, a + 1, h => by
    rw [n2_cons, List.eraseIdx_cons_succ, n2_cons, ← n2_erase r a (by simpa using h), show 2 * (a + 1) = 2 * a + 1 + 1 by omega]
    simp only [List.eraseIdx_cons_succ]
theorem m_del_at {a : Nat} (h : a < M.length) (he : M[a].1 = k) (hf : ∀ b (hb : b < M.length), b < a → M[b].1 ≠ k) : ropPV .mdel [pRow encN2 M, pS k] = some (pRow encN2 (M.eraseIdx a)) := by
  simp only [ropPV, pRow, mf_at 0 h he hf, Nat.zero_add, n2_erase M a h, List.length_eraseIdx, if_pos h]
end

structure Inv (s : StM) (M : MapM) : Prop where
  may : MayS s
  nd : ∀ (a b : Nat) (ha : a < M.length) (hb : b < M.length), M[a].1 = M[b].1 → a = b
  i1 : ∀ e ∈ M, ∃ j, ∃ h : j < s.files.length, e = (s.files[j].1, (j : Int) + 1) ∧ s.files[j].1 ≠ e0
  i2 : ∀ j (h : j < s.files.length), s.files[j].1 ≠ e0 → (s.files[j].1, (j : Int) + 1) ∈ M
theorem inv_new : Inv newS [] := by
  refine ⟨may_new, fun a b ha => absurd ha (by simp), fun e he => absurd he (by simp), fun j hj hn => ?_⟩
  have : newS.files[j] ∈ newS.files := List.getElem_mem hj
  rw [(List.mem_replicate.1 this).2] at hn
  exact absurd rfl hn
theorem inv_case {s : StM} {M : MapM} (h : Inv s M) (k : ByteArray) : (∃ a, ∃ ha : a < M.length, M[a].1 = k ∧ ∀ b (hb : b < M.length), b < a → M[b].1 ≠ k) ∨ (∀ e ∈ M, e.1 ≠ k) := by
  by_cases hx : ∃ e ∈ M, e.1 = k
  · obtain ⟨e, he, rfl⟩ := hx
    obtain ⟨a, ha, rfl⟩ := List.getElem_of_mem he
    exact .inl ⟨a, ha, rfl, fun b hb hba e => by have := h.nd b a hb ha e; omega⟩
  · exact .inr fun e he hk => hx ⟨e, he, hk⟩
theorem inv_keep {s t : StM} {M : MapM} (h : Inv s M) (hf : t.files = s.files) (hm : MayS t) : Inv t M := by
  obtain ⟨f, m, e⟩ := t
  simp only at hf
  subst hf
  exact ⟨hm, h.nd, h.i1, h.i2⟩
def nmG (s : StM) (j : Nat) : Option (ByteArray × Int) := if (s.files.getD j f00).1 = e0 then none else some ((s.files.getD j f00).1, (j : Int) + 1)
theorem inv_len {s : StM} {M : MapM} (h : Inv s M) : ((List.range 6).filterMap (nmG s)).length = M.length := by
  apply List.Perm.length_eq
  have hd : ∀ j (hj : j < s.files.length), s.files.getD j f00 = s.files[j] := fun j hj => by simp [List.getD, hj]
  refine (List.perm_ext_iff_of_nodup ?_ ?_).2 fun e => ?_
  · rw [List.Nodup, List.pairwise_filterMap]
    refine List.Pairwise.imp (fun {a b} hne x hx y hy => ?_) List.nodup_range
    unfold nmG at hx hy
    split at hx
    · cases hx
    · split at hy
      · cases hy
      · simp only [Option.some.injEq] at hx hy
        subst hx; subst hy
        intro he
        simp only [Prod.mk.injEq] at he
        omega
  · rw [List.Nodup, List.pairwise_iff_getElem]
    intro a b ha hb hab he
    have := h.nd a b ha hb (by rw [he])
    omega
  · rw [List.mem_filterMap]
    constructor
    · rintro ⟨j, hj, hx⟩
      have hj6 : j < s.files.length := by rw [h.may.fl]; exact List.mem_range.1 hj
      unfold nmG at hx
      rw [hd j hj6] at hx
      split at hx
      · cases hx
      · rename_i hn
        simp only [Option.some.injEq] at hx
        rw [← hx]
        exact h.i2 j hj6 hn
    · intro he
      obtain ⟨j, hj, rfl, hn⟩ := h.i1 e he
      refine ⟨j, List.mem_range.2 (by rw [← h.may.fl]; exact hj), ?_⟩
      unfold nmG
      rw [hd j hj, if_neg hn]
theorem inv_full {s : StM} {M : MapM} (h : Inv s M) (hr : s.files.findIdx? (isN e0) = none) : M.length = 6 := by
  rw [← inv_len h, List.length_filterMap_eq_countP, List.countP_eq_length.2]
  · rfl
  · intro j hj
    have hj6 : j < s.files.length := by rw [h.may.fl]; exact List.mem_range.1 hj
    rw [List.findIdx?_eq_none_iff] at hr
    have hn := isN_no.1 (hr _ (List.getElem_mem hj6))
    have hd : s.files.getD j f00 = s.files[j] := by simp [List.getD, hj6]
    unfold nmG
    rw [hd, if_neg hn]
    rfl
theorem inv_room {s : StM} {M : MapM} (h : Inv s M) {i : Nat} (hi : i < s.files.length) (hn : s.files[i].1 = e0) : M.length < 6 := by
  have hle : ((List.range 6).filterMap (nmG s)).length ≤ (List.range 6).length := List.length_filterMap_le ..
  rw [inv_len h, List.length_range] at hle
  rcases Nat.lt_or_ge M.length 6 with hlt | hge
  · exact hlt
  · exfalso
    have h6 : M.length = 6 := by omega
    have hc := inv_len h
    rw [h6, List.length_filterMap_eq_countP] at hc
    have := List.countP_eq_length.1 (hc.trans (List.length_range (n := 6)).symm) i (List.mem_range.2 (by rw [← h.may.fl]; exact hi))
    have hd : s.files.getD i f00 = s.files[i] := by simp [List.getD, hi]
    unfold nmG at this
    rw [hd, if_pos hn] at this
    cases this
theorem inv_open_at {s : StM} {M : MapM} (h : Inv s M) {k : ByteArray} (ho : dirs.okN k = true) {a : Nat} (ha : a < M.length) (hk : M[a].1 = k) (c q : Int) : ∃ v, (openS s c q k).2 = (q, 0, M[a].2, v) ∧ (openS s c q k).1.files = s.files := by
  obtain ⟨j, hj, he, hn⟩ := h.i1 _ (List.getElem_mem ha)
  rw [he] at hk ⊢
  have hk : s.files[j].1 = k := hk
  have hf : s.files.findIdx? (isN k) = some j := by
    rw [List.findIdx?_eq_some_iff_getElem]
    refine ⟨hj, isN_iff.2 hk, fun b hb hx => ?_⟩
    have := (own_name h.may hj hn).2 b (by omega) (by omega)
    exact this (by rw [hk]; exact isN_iff.1 hx)
  refine ⟨(s.files.getD j f00).2.1, ?_, ?_⟩
  · simp only [openS, ho, if_true, hf]
  · simp only [openS, ho, if_true, hf]
    rfl
theorem inv_open_no {s : StM} {M : MapM} (h : Inv s M) {k : ByteArray} (ho : dirs.okN k = true) (hno : ∀ e ∈ M, e.1 ≠ k) (c q : Int) (h0 : 0 ≤ q) (h1 : q ≤ 1073741824) :
    (M.length < 6 ∧ ∃ i : Nat, i < 6 ∧ (openS s c q k).2 = (q, 0, (i : Int) + 1, 1) ∧ Inv (openS s c q k).1 (M ++ [(k, (i : Int) + 1)])) ∨ (M.length = 6 ∧ (openS s c q k).2 = (q, 3, 0, 0) ∧ Inv (openS s c q k).1 M) := by
  have hk0 : k ≠ e0 := okN_ne ho
  have hf : s.files.findIdx? (isN k) = none := by
    rw [List.findIdx?_eq_none_iff]
    intro x hx
    obtain ⟨j, hj, rfl⟩ := List.getElem_of_mem hx
    rw [isN_no]
    intro e
    exact hno _ (h.i2 j hj (by rw [e]; exact hk0)) e
  have hm := may_open h.may c q k h0 h1
  cases hr : s.files.findIdx? (isN e0) with
  | none =>
    refine .inr ⟨inv_full h hr, ?_, inv_keep h ?_ hm⟩
    · simp only [openS, ho, if_true, hf, hr]
    · simp only [openS, ho, if_true, hf, hr]
      rfl
  | some i =>
    obtain ⟨hi, hn, _⟩ := List.findIdx?_eq_some_iff_getElem.1 hr
    have hn := isN_iff.1 hn
    have hi6 : i < 6 := by rw [← h.may.fl]; exact hi
    have hx : ((i : Int) + 1).toNat - 1 = i := by omega
    have hy : (0 : Int) < (i : Int) + 1 := by omega
    have he : openS s c q k = (⟨s.files.set i (k, 1, e0), putMk s.marks c (q, 0, (i : Int) + 1, 1), s.epoch⟩, (q, 0, (i : Int) + 1, 1)) := by
      simp only [openS, ho, if_true, hf, hr]
      simp [marked, hx, hy]
    rw [he] at hm ⊢
    refine .inl ⟨inv_room h hi hn, i, hi6, rfl, hm, fun a b ha hb hab => ?_, fun e hm' => ?_, fun j hj hjn => ?_⟩
    · rw [List.length_append] at ha hb
      simp only [List.length_cons, List.length_nil] at ha hb
      rcases Nat.lt_or_ge a M.length with h1 | h1 <;> rcases Nat.lt_or_ge b M.length with h2 | h2
      · rw [List.getElem_append_left h1, List.getElem_append_left h2] at hab
        exact h.nd a b h1 h2 hab
      · rw [List.getElem_append_left h1, List.getElem_append_right h2] at hab
        simp only [List.getElem_singleton] at hab
        exact absurd hab (hno _ (List.getElem_mem h1))
      · rw [List.getElem_append_right h1, List.getElem_append_left h2] at hab
        simp only [List.getElem_singleton] at hab
        exact absurd hab.symm (hno _ (List.getElem_mem h2))
      · omega
    · simp only [List.length_set] at *
      rcases List.mem_append.1 hm' with h1 | h1
      · obtain ⟨j, hj, rfl, hjn⟩ := h.i1 e h1
        have hji : i ≠ j := fun e => by subst e; exact hjn hn
        refine ⟨j, by simpa using hj, ?_, ?_⟩
        · rw [List.getElem_set_ne hji]
        · rw [List.getElem_set_ne hji]; exact hjn
      · simp only [List.mem_singleton] at h1
        subst h1
        refine ⟨i, by simpa using hi, ?_, ?_⟩
        · rw [List.getElem_set_self]
        · rw [List.getElem_set_self]; exact hk0
    · have hj' : j < s.files.length := by simpa using hj
      by_cases hji : i = j
      · subst hji
        simp only [List.getElem_set_self]
        exact List.mem_append.2 (.inr (by simp))
      · simp only [List.getElem_set_ne hji] at hjn ⊢
        exact List.mem_append.2 (.inl (h.i2 j hj' hjn))
theorem inv_gone_no {s : StM} {M : MapM} (h : Inv s M) (c q : Int) (h0 : 0 ≤ q) (h1 : q ≤ 1073741824) : (goneS s c q 0).2 = (q, 2, 0, 0) ∧ Inv (goneS s c q 0).1 M := by
  have hF : sta.isF s 0 = false := by simp [sta.isF]
  have hm := may_gone h.may c q 0 h0 h1
  refine ⟨by simp only [goneS, hF, Bool.false_eq_true, if_false], inv_keep h ?_ hm⟩
  simp only [goneS, hF, Bool.false_eq_true, if_false]
  rfl
theorem inv_gone_at {s : StM} {M : MapM} (h : Inv s M) {a : Nat} (ha : a < M.length) (c q : Int) (h0 : 0 ≤ q) (h1 : q ≤ 1073741824) : (goneS s c q M[a].2).2 = (q, 0, M[a].2, 0) ∧ Inv (goneS s c q M[a].2).1 (M.eraseIdx a) := by
  have hm := may_gone h.may c q M[a].2 h0 h1
  obtain ⟨j, hj, he, hn⟩ := h.i1 _ (List.getElem_mem ha)
  have hv : M[a].2 = (j : Int) + 1 := by rw [he]
  have hk : M[a].1 = s.files[j].1 := by rw [he]
  rw [hv] at hm ⊢
  have hx : ((j : Int) + 1).toNat - 1 = j := by omega
  have hy : (0 : Int) < (j : Int) + 1 := by omega
  have hF : sta.isF s ((j : Int) + 1) = true := by
    obtain ⟨j2, hj2, e1, _, e2⟩ := isF_yes (fs := s.files) (ms := s.marks) (ep := s.epoch) (file := (j : Int) + 1) (by omega) (by omega)
    have : j2 = j := by omega
    subst this
    have e2 : sta.isF s ((j2 : Int) + 1) = !(s.files[j2].1.toList == e0.toList) := e2
    rw [e2]
    simp only [Bool.not_eq_true', beq_eq_false_iff_ne]
    exact fun e => hn (tl_inj e)
  have hg : goneS s c q ((j : Int) + 1) = (⟨s.files.set j f00, putMk s.marks c (q, 0, (j : Int) + 1, 0), s.epoch⟩, (q, 0, (j : Int) + 1, 0)) := by
    simp [goneS, hF, marked, hx, hy]
  rw [hg] at hm ⊢
  refine ⟨rfl, hm, fun b d hb hd hbd => ?_, fun e hm' => ?_, fun b hb hbn => ?_⟩
  · rw [List.getElem_eraseIdx, List.getElem_eraseIdx] at hbd
    rw [List.length_eraseIdx, if_pos ha] at hb hd
    split at hbd <;> split at hbd
    · exact h.nd _ _ _ _ hbd
    · have := h.nd _ _ _ _ hbd; omega
    · have := h.nd _ _ _ _ hbd; omega
    · have := h.nd _ _ _ _ hbd; omega
  · obtain ⟨b, hb, hba, rfl⟩ := List.mem_eraseIdx_iff_getElem.1 hm'
    obtain ⟨j2, hj2, he2, hn2⟩ := h.i1 _ (List.getElem_mem hb)
    have hjj : j ≠ j2 := fun e => by
      subst e
      exact hba (h.nd b a hb ha (by rw [he2, he]))
    refine ⟨j2, by simpa using hj2, ?_, ?_⟩
    · simp only [List.getElem_set_ne hjj]; exact he2
    · simp only [List.getElem_set_ne hjj]; exact hn2
  · have hb' : b < s.files.length := by simpa using hb
    by_cases hjb : j = b
    · subst hjb
      simp only [List.getElem_set_self] at hbn
      exact absurd rfl hbn
    · simp only [List.getElem_set_ne hjb] at hbn ⊢
      obtain ⟨d, hd, hde⟩ := List.getElem_of_mem (h.i2 b hb' hbn)
      refine List.mem_eraseIdx_iff_getElem.2 ⟨d, hd, fun e => ?_, hde⟩
      subst e
      rw [hde] at hv
      simp only at hv
      omega
end Go.Proofs.Ytnelcjofgpplgaa.sta
