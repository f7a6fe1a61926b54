/- The journal as plain things: what is laid, committed, mended, and what is there behind a crash. -/
import Derived.Test.YtegfdigljpnhcaaDskMath
namespace Go.Proofs.Ytegfdigljpnhcaa.jmt
set_option maxRecDepth 100000
set_option linter.unusedVariables false
open dsk

abbrev Pt := Nat × ByteArray
abbrev e0 : ByteArray := ByteArray.empty
/-! What is laid. -/
def layD : D → List Pt → D × Bool
  | d, [] => flush2 d
  | d, p :: ps => if (writeD d p.1 p.2).2 = true then layD (writeD d p.1 p.2).1 ps else ((writeD d p.1 p.2).1, false)
theorem lay_on {d d' : D} {l : List Pt} {k : Nat} (h : k < l.length) (hw : writeD d l[k].1 l[k].2 = (d', true)) : layD d (l.drop k) = layD d' (l.drop (k + 1)) := by
  rw [List.drop_eq_getElem_cons h, layD, hw]; rfl
theorem lay_bad {d d' : D} {l : List Pt} {k : Nat} (h : k < l.length) (hw : writeD d l[k].1 l[k].2 = (d', false)) : layD d (l.drop k) = (d', false) := by
  rw [List.drop_eq_getElem_cons h, layD, hw]; rfl
theorem wait_write (d : D) (i : Int) (b : ByteArray) : (writeD d i b).1.wait.length ≤ d.wait.length + 1 := by
  unfold writeD
  split
  · simp
  · simp
/-- They fill sectors that there are. -/
def Fit (n : Nat) (l : List Pt) : Prop := ∀ p ∈ l, p.1 < n ∧ p.2.size = 32
theorem write_live {d : D} (hd : d.down = false) {p : Pt} (hp : p.1 < d.last.length ∧ p.2.size = 32) : writeD d p.1 p.2 = ({ d with wait := d.wait ++ [p], arm := d.arm - 1, down := decide (d.arm = 1) }, !decide (d.arm = 1)) := by
  have : hasB d (p.1 : Int) = true := by simp [hasB, hd]; omega
  rw [writeD, if_pos ⟨this, hp.2⟩]
  simp
theorem lay_all : ∀ (l : List Pt) (d : D), d.down = false → Fit d.last.length l → (d.arm = 0 ∨ l.length < d.arm) → layD d l = ({ last := layK all32 d.last (d.wait ++ l) (d.wait ++ l).length, wait := [], arm := d.arm - l.length, down := false }, true)
  | [], d, hd, _, _ => by
    simp [layD, flush2, hd, flushD]
  | p :: l, d, hd, hf, ha => by
    have hw := write_live hd (hf p (by simp))
    have h1 : ¬ d.arm = 1 := by simp at ha; omega
    have hb : (!decide (d.arm = 1)) = true := by simp [h1]
    rw [layD, hw]
    simp only [hb, if_true]
    rw [lay_all l ({ d with wait := d.wait ++ [p], arm := d.arm - 1, down := decide (d.arm = 1) } : D) (by simp [h1]) (fun q hq => hf q (by simp [hq])) (by simp only [List.length_cons] at ha ⊢; omega)]
    simp
    omega
theorem lay_cut : ∀ (l : List Pt) (d : D), d.down = false → Fit d.last.length l → 1 ≤ d.arm → d.arm ≤ l.length → layD d l = ({ last := d.last, wait := d.wait ++ l.take d.arm, arm := 0, down := true }, false)
  | [], d, _, _, h1, h2 => by simp at h2; omega
  | p :: l, d, hd, hf, h1, h2 => by
    have hw := write_live hd (hf p (by simp))
    rw [layD, hw]
    by_cases h : d.arm = 1
    · simp [h]
    · have hb : (!decide (d.arm = 1)) = true := by simp [h]
      simp only [hb, if_true]
      rw [lay_cut l ({ d with wait := d.wait ++ [p], arm := d.arm - 1, down := decide (d.arm = 1) } : D) (by simp [h]) (fun q hq => hf q (by simp [hq])) (by show 1 ≤ d.arm - 1; omega) (by simp only [List.length_cons] at h2 ⊢; omega)]
      obtain ⟨k, hk⟩ : ∃ k, d.arm = k + 1 := ⟨d.arm - 1, by omega⟩
      simp [hk]

/-! Sectors put. -/
def setAll (L : List ByteArray) (l : List Pt) : List ByteArray := l.foldl (fun L p => L.set p.1 p.2) L
def lk : List Pt → Nat → Option ByteArray
  | [], _ => none
  | p :: l, i => match lk l i with | some b => some b | none => if p.1 = i then some p.2 else none
theorem setAll_len : ∀ (l : List Pt) (L : List ByteArray), (setAll L l).length = L.length
  | [], L => rfl
  | p :: l, L => by
    show (setAll (L.set p.1 p.2) l).length = _
    rw [setAll_len l, List.length_set]
theorem setAll_app (L : List ByteArray) (l m : List Pt) : setAll L (l ++ m) = setAll (setAll L l) m := by simp [setAll, List.foldl_append]
theorem setAll_at : ∀ (l : List Pt) (L : List ByteArray) (i : Nat), i < L.length → (setAll L l).getD i e0 = (lk l i).getD (L.getD i e0)
  | [], L, i, h => rfl
  | p :: l, L, i, h => by
    show (setAll (L.set p.1 p.2) l).getD i e0 = _
    rw [setAll_at l (L.set p.1 p.2) i (by simpa using h)]
    cases hl : lk l i with
    | some b => simp [lk, hl]
    | none =>
      by_cases hp : p.1 = i
      · subst hp; simp [lk, hl, List.getD, h]
      · simp [lk, hl, List.getD, List.getElem?_set_ne hp, hp]
theorem lk_none : ∀ (l : List Pt) (i : Nat), (∀ p ∈ l, p.1 ≠ i) → lk l i = none
  | [], i, _ => rfl
  | p :: l, i, h => by
    have h1 := lk_none l i (fun q hq => h q (by simp [hq]))
    simp [lk, h1, h p (by simp)]
theorem put_all (a b : ByteArray) (hb : b.size = 32) (ha : a.size = 32) : putAt b a 32 = b := by
  apply ByteArray.ext
  apply Array.toList_inj.1
  have hal : a.data.toList.length = 32 := by simpa using ha
  have hbl : b.data.toList.length = 32 := by simpa using hb
  simp only [putAt, ByteArray.data_append, Array.toList_append, ByteArray.data_extract, Array.toList_extract, List.extract_eq_take_drop]
  simp [List.take_of_length_le, hal, hbl, List.drop_eq_nil_of_le]
theorem layK_set {L : List ByteArray} {l : List Pt} (hL : ∀ s ∈ L, s.size = 32) (hf : Fit L.length l) : ∀ k, k ≤ l.length → layK all32 L l k = setAll L (l.take k)
  | 0, _ => by simp [layK, setAll]
  | k + 1, hk => by
    have ih := layK_set hL hf k (by omega)
    have hkl : k < l.length := hk
    have hg : l.getD k nop = l[k] := by simp [List.getD, hkl]
    obtain ⟨h1, h2⟩ := hf _ (List.getElem_mem hkl)
    have hs : (setAll L (l.take k)).length = L.length := setAll_len _ _
    have hsz : ((setAll L (l.take k)).getD l[k].1 e0).size = 32 := by
      rw [← ih]
      exact layK_sizes (fun _ => Nat.le_refl _) hL hf k (by omega) _ (getD_mem' (by rw [layK_len]; exact h1))
    rw [List.take_add_one, List.getElem?_eq_getElem hkl, Option.toList_some, setAll_app, layK, ih, hg]
    show stepAt _ _ _ = (setAll L (l.take k)).set l[k].1 l[k].2
    simp only [stepAt, all32, put_all _ _ h2 hsz]
theorem layK_all {L : List ByteArray} {l : List Pt} (hL : ∀ s ∈ L, s.size = 32) (hf : Fit L.length l) : layK all32 L l l.length = setAll L l := by
  rw [layK_set hL hf _ (Nat.le_refl _), List.take_length]

/-! Bytes. -/
def bt (b : ByteArray) (i : Nat) : Nat := (b.data.toList.getD i 0).toNat
theorem bt_put {b a : ByteArray} {n k : Nat} (hb : b.size = 32) (ha : a.size = 32) (hn : n ≤ 32) (hk : k < 32) : bt (putAt b a n) k = if k < n then bt b k else bt a k := by
  have hbl : b.data.toList.length = 32 := by simpa using hb
  have hal : a.data.toList.length = 32 := by simpa using ha
  have e : (putAt b a n).data.toList = b.data.toList.take n ++ a.data.toList.drop n := by
    simp only [putAt, ByteArray.data_append, Array.toList_append, ByteArray.data_extract, Array.toList_extract, List.extract_eq_take_drop]
    simp [List.take_of_length_le, hal]
  unfold bt
  rw [e]
  split
  · rename_i h
    simp only [List.getD]
    rw [List.getElem?_append_left (by rw [List.length_take]; omega), List.getElem?_take, if_pos h]
  · rename_i h
    simp only [List.getD]
    rw [List.getElem?_append_right (by rw [List.length_take]; omega), List.getElem?_drop, List.length_take]
    rw [show n + (k - min n b.data.toList.length) = k by omega]
/-- The right head of these sectors. -/
def headL (a : List Nat) : List UInt8 := 1 :: UInt8.ofNat a.length :: (a.map UInt8.ofNat ++ List.replicate (29 - a.length) 0 ++ [1])
def headB (a : List Nat) : ByteArray := ⟨(headL a).toArray⟩
theorem headL_len {a : List Nat} (h : a.length ≤ 29) : (headL a).length = 32 := by simp [headL]; omega
theorem head_size {a : List Nat} (h : a.length ≤ 29) : (headB a).size = 32 := by
  show (headL a).toArray.size = 32
  rw [List.size_toArray, headL_len h]
theorem head_1 {a : List Nat} (h : a.length ≤ 29) : bt (headB a) 1 = a.length := by
  show (UInt8.ofNat a.length).toNat = a.length
  simp; omega
theorem head_31 {a : List Nat} (h : a.length ≤ 29) : bt (headB a) 31 = 1 := by
  show ((headL a).getD 31 0).toNat = 1
  have : (headL a)[31]? = some 1 := by
    simp only [headL, List.getElem?_cons_succ]
    rw [List.getElem?_append_right (by simp; omega)]
    simp
    rw [show 29 - (a.length + (29 - a.length)) = 0 by omega]
    rfl
  simp [List.getD, this]
theorem head_at {a : List Nat} (h : a.length ≤ 29) (hb : ∀ x ∈ a, x < 256) {k : Nat} (hk : k < a.length) : bt (headB a) (2 + k) = a[k] := by
  show ((headL a).getD (2 + k) 0).toNat = a[k]
  have : (headL a)[2 + k]? = some (UInt8.ofNat a[k]) := by
    rw [show 2 + k = k + 1 + 1 by omega]
    simp only [headL, List.getElem?_cons_succ]
    rw [List.append_assoc, List.getElem?_append_left (by simp; omega)]
    simp [hk]
  have := hb _ (List.getElem_mem hk)
  simp [List.getD, *]
def listedB (b : ByteArray) : List Nat := if b.size = 32 ∧ bt b 1 ≤ 16 then (List.range (bt b 1)).map fun k => bt b (2 + k) else []
theorem listed_head {a : List Nat} (h : a.length ≤ 16) (hb : ∀ x ∈ a, x < 256) : listedB (headB a) = a := by
  rw [listedB, if_pos ⟨head_size (by omega), by rw [head_1 (by omega)]; exact h⟩, head_1 (by omega)]
  apply List.ext_getElem (by simp)
  intro i h1 h2
  simp only [List.getElem_map, List.getElem_range]
  exact head_at (by omega) hb h2

/-! What a head names. -/
def rising (most : Int) : Int → List Int → Bool
  | _, [] => true
  | a, x :: xs => decide (a < x) && decide (x < most) && rising most x xs
abbrev ints (a : List Nat) : List Int := a.map fun (n : Nat) => (n : Int)
def nameOk (len home : Nat) (a : List Nat) : Bool := decide (1 ≤ a.length) && decide (a.length ≤ 16) && decide ((a.length : Int) < (len : Int) - (home : Int)) && rising (min (home : Int) 256) (-1) (ints a)
theorem rising_lt : ∀ (l : List Nat) (most a : Int), rising most a (ints l) = true → ∀ x ∈ l, (x : Int) < most
  | [], _, _, _, x, h => by cases h
  | y :: l, most, a, h, x, hx => by
    simp only [ints, List.map_cons, rising, Bool.and_eq_true, decide_eq_true_eq] at h
    rcases List.mem_cons.1 hx with rfl | hx
    · exact h.1.2
    · exact rising_lt l most _ h.2 x hx
def pairsF (L : List ByteArray) : Nat → List Nat → List Pt
  | _, [] => []
  | h, x :: xs => (x, L.getD h e0) :: pairsF L (h + 1) xs
def copiesF : Nat → List Pt → List Pt
  | _, [] => []
  | h, p :: ps => (h, p.2) :: copiesF (h + 1) ps
abbrev ats (l : List Pt) : List Nat := l.map (·.1)
def named (L : List ByteArray) (home : Nat) : Option (List Pt) :=
  if nameOk L.length home (listedB (L.getD home e0)) = true ∧ L.getD home e0 = headB (listedB (L.getD home e0)) then some (pairsF L (home + 1) (listedB (L.getD home e0))) else none
theorem pairs_len (L : List ByteArray) : ∀ (a : List Nat) (h : Nat), (pairsF L h a).length = a.length
  | [], _ => rfl
  | x :: xs, h => by simp [pairsF, pairs_len L xs (h + 1)]
theorem pairs_fit {L : List ByteArray} (hL : ∀ s ∈ L, s.size = 32) : ∀ (a : List Nat) (h n : Nat), (∀ x ∈ a, x < n) → h + a.length ≤ L.length → Fit n (pairsF L h a)
  | [], _, _, _, _ => fun p hp => by cases hp
  | x :: xs, h, n, ha, hl => by
    intro p hp
    simp only [List.length_cons] at hl
    rcases List.mem_cons.1 hp with rfl | hp
    · exact ⟨ha x (by simp), hL _ (getD_mem' (by omega))⟩
    · exact pairs_fit hL xs (h + 1) n (fun y hy => ha y (by simp [hy])) (by omega) p hp
theorem copies_len : ∀ (l : List Pt) (h : Nat), (copiesF h l).length = l.length
  | [], _ => rfl
  | p :: l, h => by simp [copiesF, copies_len l (h + 1)]
theorem copies_mem : ∀ (l : List Pt) (h : Nat), ∀ p ∈ copiesF h l, h ≤ p.1 ∧ p.1 < h + l.length ∧ ∃ q ∈ l, q.2 = p.2
  | [], _, p, hp => by cases hp
  | q :: l, h, p, hp => by
    rcases List.mem_cons.1 hp with rfl | hp
    · exact ⟨Nat.le_refl _, by simp, q, by simp, rfl⟩
    · obtain ⟨h1, h2, q', h3, h4⟩ := copies_mem l (h + 1) p hp
      exact ⟨by omega, by simp; omega, q', by simp [h3], h4⟩
theorem copies_lk : ∀ (l : List Pt) (h k : Nat) (hk : k < l.length), lk (copiesF h l) (h + k) = some l[k].2
  | [], _, k, hk => absurd hk (Nat.not_lt_zero k)
  | p :: l, h, 0, _ => by
    have : lk (copiesF (h + 1) l) (h + 0) = none := lk_none _ _ (fun q hq => by have := (copies_mem l (h + 1) q hq).1; omega)
    simp only [copiesF, lk, this]
    simp
  | p :: l, h, k + 1, hk => by
    have := copies_lk l (h + 1) k (by simpa using hk)
    rw [show h + 1 + k = h + (k + 1) by omega] at this
    simp only [copiesF, lk, this]
    simp
theorem pairs_back (L : List ByteArray) : ∀ (l : List Pt) (h : Nat), (∀ k (hk : k < l.length), L.getD (h + k) e0 = l[k].2) → pairsF L h (ats l) = l
  | [], _, _ => rfl
  | p :: l, h, hs => by
    have h0 := hs 0 (by simp)
    have := pairs_back L l (h + 1) (fun k hk => by have := hs (k + 1) (by simpa using hk); rw [show h + 1 + k = h + (k + 1) by omega]; simpa using this)
    simp only [ats, List.map_cons, pairsF]
    rw [this]
    have h0' : L.getD h e0 = p.2 := h0
    rw [h0']

/-! Seventeen sectors, the head the ninth. -/
structure Calm (L : List ByteArray) : Prop where
  n : L.length = 17
  len : ∀ s ∈ L, s.size = 32
/-- Sectors that may be committed. -/
structure Puts (p : List Pt) : Prop where
  one : 1 ≤ p.length
  few : p.length ≤ 8
  ris : rising 8 (-1) (ints (ats p)) = true
  len : ∀ q ∈ p, q.2.size = 32
theorem Puts.lt {p : List Pt} (h : Puts p) : ∀ q ∈ p, q.1 < 8 := fun q hq => by
  have := rising_lt (ats p) 8 (-1) h.ris q.1 (List.mem_map.2 ⟨q, hq, rfl⟩)
  omega
theorem Puts.name {p : List Pt} (h : Puts p) : nameOk 17 8 (ats p) = true := by
  have h1 := h.one
  have h2 := h.few
  have h3 := h.ris
  simp only [nameOk, Bool.and_eq_true, decide_eq_true_eq, ats, List.length_map]
  exact ⟨⟨⟨h1, by omega⟩, by omega⟩, h3⟩
def mended (L : List ByteArray) : List ByteArray := match named L 8 with | none => L | some l => setAll L l
theorem named_fit {L : List ByteArray} (hc : Calm L) {l : List Pt} (h : named L 8 = some l) : Fit 8 l ∧ l.length ≤ 8 := by
  unfold named at h
  split at h
  · rename_i hn
    cases h
    have h1 := hn.1
    simp only [nameOk, Bool.and_eq_true, decide_eq_true_eq, hc.n] at h1
    have h2 : (listedB (L.getD 8 e0)).length ≤ 8 := by omega
    have hr : rising 8 (-1) (ints (listedB (L.getD 8 e0))) = true := h1.2
    refine ⟨pairs_fit hc.len _ _ 8 (fun x hx => ?_) (by rw [hc.n]; omega), by rw [pairs_len]; exact h2⟩
    have := rising_lt _ 8 (-1) hr x hx
    omega
  · cases h
theorem calm_set {L : List ByteArray} (h : Calm L) {l : List Pt} (hf : Fit 17 l) : Calm (setAll L l) := by
  refine ⟨by rw [setAll_len, h.n], ?_⟩
  rw [← layK_all h.len (by rw [h.n]; exact hf)]
  exact layK_sizes (fun _ => Nat.le_refl _) h.len (by rw [h.n]; exact hf) _ (Nat.le_refl _)
theorem calm_lay {L : List ByteArray} (h : Calm L) {l : List Pt} (hf : Fit 17 l) (keep : List Int) (k : Nat) (hk : k ≤ l.length) : Calm (layK (keepAt keep) L l k) :=
  ⟨by rw [layK_len, h.n], layK_sizes (keepAt_le keep) h.len (by rw [h.n]; exact hf) k hk⟩
theorem fit17 {l : List Pt} (h : Fit 8 l) : Fit 17 l := fun p hp => ⟨by have := (h p hp).1; omega, (h p hp).2⟩
theorem mended_calm {L : List ByteArray} (hc : Calm L) : Calm (mended L) := by
  unfold mended
  split
  · exact hc
  · rename_i l h
    exact calm_set hc (fit17 (named_fit hc h).1)
end Go.Proofs.Ytegfdigljpnhcaa.jmt
