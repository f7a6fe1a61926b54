/- A commit, a crash, a mending: what is there behind them. -/
import Derived.Test.YtegfdigljpnhcaaJmt
namespace Go.Proofs.Ytegfdigljpnhcaa.jmt
set_option maxRecDepth 100000
set_option linter.unusedVariables false
set_option linter.unusedSimpArgs false
open dsk

def seqD : D → List (List Pt) → D × Bool
  | d, [] => (d, true)
  | d, x :: xs => if (layD d x).2 = true then seqD (layD d x).1 xs else ((layD d x).1, false)
def fills (l : List Pt) : Bool := l.all fun p => decide (p.2.size = 32)
def lots (home : Nat) (p : List Pt) : List (List Pt) := [[(home, noughts)], copiesF (home + 1) p, [(home, headB (ats p))], p]
def commitD (d : D) (home : Nat) (p : List Pt) : D × Bool :=
  if p = [] then (d, true) else if nameOk d.last.length home (ats p) = true ∧ fills p = true then seqD d (lots home p) else (d, false)
def mendD (d : D) (home : Nat) : D × Bool := match named d.last home with | none => (d, false) | some l => layD d l
/-- A disk on which nothing waits. -/
abbrev dk (L : List ByteArray) (a : Nat) : D := ⟨L, [], a, false⟩
theorem dk_lay {L : List ByteArray} {l : List Pt} {a : Nat} (hc : Calm L) (hf : Fit 17 l) (ha : a = 0 ∨ l.length < a) : layD (dk L a) l = (dk (setAll L l) (a - l.length), true) := by
  rw [lay_all l (dk L a) rfl (by show Fit L.length l; rw [hc.n]; exact hf) ha]
  simp only [List.nil_append]
  rw [layK_all hc.len (by rw [hc.n]; exact hf)]
theorem dk_cut {L : List ByteArray} {l : List Pt} {a : Nat} (hc : Calm L) (hf : Fit 17 l) (h1 : 1 ≤ a) (h2 : a ≤ l.length) : layD (dk L a) l = (⟨L, l.take a, 0, true⟩, false) := by
  rw [lay_cut l (dk L a) rfl (by show Fit L.length l; rw [hc.n]; exact hf) h1 h2]
  simp
theorem ok_dk {L : List ByteArray} (hc : Calm L) {a : Nat} (ha : a ≤ 1000) : (dk L a).ok := ⟨by show L.length ≤ 64; rw [hc.n]; omega, hc.len, fun _ h => (by cases h), Nat.zero_le _, ha⟩
theorem ok_cut {L : List ByteArray} (hc : Calm L) {l : List Pt} (hf : Fit 17 l) (hl : l.length ≤ 1000) : (⟨L, l, 0, true⟩ : D).ok := ⟨by show L.length ≤ 64; rw [hc.n]; omega, hc.len, fun p hp => by show p.1 < L.length ∧ _; rw [hc.n]; exact hf p hp, hl, Nat.zero_le _⟩

/-! Mended. -/
theorem mend_full {L : List ByteArray} (hc : Calm L) : mendD (dk L 0) 8 = (dk (mended L) 0, (named L 8).isSome) := by
  unfold mendD mended
  cases h : named L 8 with
  | none => rfl
  | some l =>
    have hf := fit17 (named_fit hc h).1
    show layD (dk L 0) l = _
    rw [dk_lay hc hf (.inl rfl)]
    simp

/-! Committed. -/
def S1 (L : List ByteArray) : List ByteArray := setAll L [(8, noughts)]
def S2 (L : List ByteArray) (p : List Pt) : List ByteArray := setAll (S1 L) (copiesF 9 p)
def S3 (L : List ByteArray) (p : List Pt) : List ByteArray := setAll (S2 L p) [(8, headB (ats p))]
def S4 (L : List ByteArray) (p : List Pt) : List ByteArray := setAll (S3 L p) p
theorem nought_size : noughts.size = 32 := by decide
theorem nought_bt (i : Nat) : bt noughts i = 0 := by
  unfold bt noughts
  simp only [List.getD, List.getElem?_replicate]
  split <;> rfl
section
variable {L : List ByteArray} {p : List Pt}
theorem fit_n : Fit 17 [(8, noughts)] := fun q hq => by simp at hq; subst hq; exact ⟨by decide, nought_size⟩
theorem fit_h (hp : Puts p) : Fit 17 [(8, headB (ats p))] := fun q hq => by
  simp at hq; subst hq
  exact ⟨by show 8 < 17; omega, head_size (by have := hp.few; simp; omega)⟩
theorem fit_c (hp : Puts p) : Fit 17 (copiesF 9 p) := fun q hq => by
  obtain ⟨h1, h2, q', h3, h4⟩ := copies_mem p 9 q hq
  have := hp.few
  exact ⟨by omega, by rw [← h4]; exact hp.len q' h3⟩
theorem calm1 (hc : Calm L) : Calm (S1 L) := calm_set hc fit_n
theorem calm2 (hc : Calm L) (hp : Puts p) : Calm (S2 L p) := calm_set (calm1 hc) (fit_c hp)
theorem calm3 (hc : Calm L) (hp : Puts p) : Calm (S3 L p) := calm_set (calm2 hc hp) (fit_h hp)
theorem one_at (hc : Calm L) (b : ByteArray) (i : Nat) (hi : i < 17) : (setAll L [(8, b)]).getD i e0 = if i = 8 then b else L.getD i e0 := by
  rw [setAll_at _ _ i (by rw [hc.n]; exact hi)]
  by_cases h : i = 8
  · subst h; rfl
  · have : ¬ 8 = i := fun e => h e.symm
    simp [lk, this, h]
theorem s1_at (hc : Calm L) (i : Nat) (hi : i < 17) : (S1 L).getD i e0 = if i = 8 then noughts else L.getD i e0 := one_at hc noughts i hi
theorem s2_low (hc : Calm L) (hp : Puts p) (i : Nat) (hi : i ≤ 8) : (S2 L p).getD i e0 = (S1 L).getD i e0 := by
  rw [S2, setAll_at _ _ i (by rw [(calm1 hc).n]; omega), lk_none _ i (fun q hq => by have := (copies_mem p 9 q hq).1; omega)]
  rfl
theorem s2_copy (hc : Calm L) (hp : Puts p) (k : Nat) (hk : k < p.length) : (S2 L p).getD (9 + k) e0 = p[k].2 := by
  have := hp.few
  rw [S2, setAll_at _ _ _ (by rw [(calm1 hc).n]; omega), copies_lk p 9 k hk]
  rfl
theorem s3_at (hc : Calm L) (hp : Puts p) (i : Nat) (hi : i < 17) : (S3 L p).getD i e0 = if i = 8 then headB (ats p) else (S2 L p).getD i e0 := one_at (calm2 hc hp) _ i hi
theorem s3_low (hc : Calm L) (hp : Puts p) (i : Nat) (hi : i < 8) : (S3 L p).getD i e0 = L.getD i e0 := by
  rw [s3_at hc hp i (by omega), if_neg (by omega), s2_low hc hp i (by omega), s1_at hc i (by omega), if_neg (by omega)]
theorem s3_named (hc : Calm L) (hp : Puts p) : named (S3 L p) 8 = some p := by
  have h8 : (S3 L p).getD 8 e0 = headB (ats p) := by rw [s3_at hc hp 8 (by omega), if_pos rfl]
  have hl : listedB (headB (ats p)) = ats p := by
    refine listed_head (by have := hp.few; simp; omega) (fun x hx => ?_)
    obtain ⟨q, hq, rfl⟩ := List.mem_map.1 hx
    have := hp.lt q hq
    omega
  unfold named
  rw [h8, hl, (calm3 hc hp).n, if_pos ⟨hp.name, rfl⟩]
  rw [pairs_back _ p 9 (fun k hk => by rw [s3_at hc hp (9 + k) (by have := hp.few; omega), if_neg (by omega), s2_copy hc hp k hk])]
theorem whole_at {L' : List ByteArray} (hc : Calm L) (hc' : Calm L') (h : ∀ i, i < 8 → (∀ q ∈ p, q.1 ≠ i) → L'.getD i e0 = L.getD i e0) : ∀ i, i < 8 → (setAll L' p).getD i e0 = (setAll L p).getD i e0 := by
  intro i hi
  rw [setAll_at _ _ i (by rw [hc'.n]; omega), setAll_at _ _ i (by rw [hc.n]; omega)]
  cases hl : lk p i with
  | some b => rfl
  | none =>
    refine h i hi (fun q hq e => ?_)
    have : ∀ (l : List Pt), lk l i = none → ∀ q ∈ l, q.1 ≠ i := by
      intro l
      induction l with
      | nil => intro _ q hq; cases hq
      | cons r l ih =>
        intro h q hq
        simp only [lk] at h
        split at h
        · cases h
        · rename_i h2
          rcases List.mem_cons.1 hq with rfl | hq
          · intro e; simp [e] at h
          · exact ih h2 q hq
    exact this p hl q hq e
/-- As the one has it the other has it, below the head. -/
def Same8 (L L' : List ByteArray) : Prop := ∀ i, i < 8 → L.getD i e0 = L'.getD i e0
theorem s4_sees (hc : Calm L) (hp : Puts p) : Same8 (S4 L p) (setAll L p) := whole_at hc (calm3 hc hp) (fun i hi _ => s3_low hc hp i hi)

theorem commit_seq (a : Nat) (hc : Calm L) (hp : Puts p) : commitD (dk L a) 8 p = seqD (dk L a) (lots 8 p) := by
  have h1 : p ≠ [] := fun e => by have := hp.one; rw [e] at this; simp at this
  have h2 : fills p = true := List.all_eq_true.2 fun q hq => by simpa using hp.len q hq
  have h3 : nameOk (dk L a).last.length 8 (ats p) = true := by show nameOk L.length 8 (ats p) = true; rw [hc.n]; exact hp.name
  rw [commitD, if_neg h1, if_pos ⟨h3, h2⟩]
theorem go1 {a : Nat} (hc : Calm L) (ha : a = 0 ∨ 1 < a) (xs : List (List Pt)) : seqD (dk L a) ([(8, noughts)] :: xs) = seqD (dk (S1 L) (a - 1)) xs := by
  rw [seqD, dk_lay hc fit_n ha]; rfl
theorem go2 {a : Nat} (hc : Calm L) (hp : Puts p) (ha : a = 0 ∨ p.length < a) (xs : List (List Pt)) : seqD (dk (S1 L) a) (copiesF 9 p :: xs) = seqD (dk (S2 L p) (a - p.length)) xs := by
  rw [seqD, dk_lay (calm1 hc) (fit_c hp) (by rw [copies_len]; exact ha), copies_len]; rfl
theorem go3 {a : Nat} (hc : Calm L) (hp : Puts p) (ha : a = 0 ∨ 1 < a) (xs : List (List Pt)) : seqD (dk (S2 L p) a) ([(8, headB (ats p))] :: xs) = seqD (dk (S3 L p) (a - 1)) xs := by
  rw [seqD, dk_lay (calm2 hc hp) (fit_h hp) ha]; rfl
theorem commit_head (hc : Calm L) (hp : Puts p) : commitD (dk L (2 + p.length)) 8 p = (⟨S2 L p, [(8, headB (ats p))], 0, true⟩, false) := by
  rw [commit_seq _ hc hp, lots, go1 hc (by have := hp.one; omega), go2 hc hp (by have := hp.one; omega), seqD, dk_cut (calm2 hc hp) (fit_h hp) (by omega) (by simp)]
  simp
theorem named_none {L : List ByteArray} (h : ∀ a : List Nat, a.length ≤ 16 → L.getD 8 e0 ≠ headB a) : named L 8 = none := by
  unfold named
  rw [if_neg]
  rintro ⟨h1, h2⟩
  simp only [nameOk, Bool.and_eq_true, decide_eq_true_eq] at h1
  exact h _ h1.1.1.2 h2
theorem mended_none {L : List ByteArray} (h : named L 8 = none) : mended L = L := by simp [mended, h]
theorem part_no (hp : Puts p) {n : Nat} (hn : n < 32) (a : List Nat) (ha : a.length ≤ 16) : putAt (headB (ats p)) noughts n ≠ headB a := fun e => by
  have h := head_31 (a := a) (by omega)
  rw [← e, bt_put (head_size (by have := hp.few; simp; omega)) nought_size (by omega) (by omega), if_neg (by omega), nought_bt] at h
  cases h
end

/-! A new disk. -/
theorem new_calm : Calm (List.replicate 17 noughts) := ⟨by simp, fun s hs => by rw [List.eq_of_mem_replicate hs]; exact nought_size⟩

/-! The sectors of the laws. -/
def putsF (s : Nat → ByteArray) : Nat → List Nat → List Pt
  | _, [] => []
  | k, z :: zs => if 0 < z % 3 then (k, s z) :: putsF s (k + 1) zs else putsF s (k + 1) zs
theorem puts_ris (s : Nat → ByteArray) : ∀ (zs : List Nat) (k : Nat) (a : Int), a < (k : Int) → k + zs.length ≤ 8 → rising 8 a (ints (ats (putsF s k zs))) = true
  | [], _, _, _, _ => rfl
  | z :: zs, k, a, h1, h2 => by
    simp only [List.length_cons] at h2
    unfold putsF
    split
    · simp only [ats, ints, List.map_cons, rising, Bool.and_eq_true, decide_eq_true_eq]
      exact ⟨⟨h1, by omega⟩, puts_ris s zs (k + 1) (k : Int) (by omega) (by omega)⟩
    · exact puts_ris s zs (k + 1) a (by omega) (by omega)
theorem puts_few (s : Nat → ByteArray) : ∀ (zs : List Nat) (k : Nat), (putsF s k zs).length ≤ zs.length
  | [], _ => Nat.le_refl _
  | z :: zs, k => by
    unfold putsF
    have := puts_few s zs (k + 1)
    split <;> simp <;> omega
theorem puts_len {s : Nat → ByteArray} (hs : ∀ z, (s z).size = 32) : ∀ (zs : List Nat) (k : Nat), ∀ q ∈ putsF s k zs, q.2.size = 32
  | [], _, q, h => by cases h
  | z :: zs, k, q, h => by
    unfold putsF at h
    split at h
    · rcases List.mem_cons.1 h with rfl | h
      · exact hs z
      · exact puts_len hs zs (k + 1) q h
    · exact puts_len hs zs (k + 1) q h
theorem puts_ok {s : Nat → ByteArray} (hs : ∀ z, (s z).size = 32) (zs : List Nat) (hl : zs.length = 8) : putsF s 0 zs = [] ∨ Puts (putsF s 0 zs) := by
  by_cases h : putsF s 0 zs = []
  · exact .inl h
  · exact .inr ⟨List.length_pos_iff.2 h, by have := puts_few s zs 0; omega, puts_ris s zs 0 (-1) (by omega) (by omega), puts_len hs zs 0⟩
theorem lk_ris : ∀ (p : List Pt) (most a : Int), rising most a (ints (ats p)) = true → ∀ k (hk : k < p.length), lk p p[k].1 = some p[k].2 ∧ a < (p[k].1 : Int)
  | [], _, _, _, k, hk => absurd hk (Nat.not_lt_zero k)
  | q :: p, most, a, h, k, hk => by
    simp only [ints, ats, List.map_cons, rising, Bool.and_eq_true, decide_eq_true_eq] at h
    have ih := lk_ris p most (q.1 : Int) h.2
    cases k with
    | zero =>
      have : lk p q.1 = none := lk_none p q.1 (fun r hr e => by
        obtain ⟨j, hj, rfl⟩ := List.getElem_of_mem hr
        have := (ih j hj).2
        omega)
      exact ⟨by simp [lk, this], h.1.1⟩
    | succ k =>
      obtain ⟨h1, h2⟩ := ih k (by simpa using hk)
      refine ⟨?_, ?_⟩
      · simp only [List.getElem_cons_succ, lk, h1]
      · simp only [List.getElem_cons_succ]; omega
end Go.Proofs.Ytegfdigljpnhcaa.jmt
