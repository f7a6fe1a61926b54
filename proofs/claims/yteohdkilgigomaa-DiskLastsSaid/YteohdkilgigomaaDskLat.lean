/- What is read behind writes and flushes. -/
import Derived.Test.YteohdkilgigomaaDskB
namespace Go.Proofs.Yteohdkilgigomaa.dsk
set_option maxRecDepth 100000
open Go.RowKit

theorem latK_append (i : Nat) (s0 : ByteArray) (ps qs : List (Nat × ByteArray)) (k : Nat) (hk : k ≤ ps.length) : latK i s0 (ps ++ qs) k = latK i s0 ps k := by
  induction k with
  | zero => rfl
  | succ k ih =>
    have : (ps ++ qs).getD k nop = ps.getD k nop := by
      simp only [List.getD]
      rw [List.getElem?_append_left (by omega)]
    rw [latK, latK, this, ih (by omega)]
theorem latK_snoc (i : Nat) (s0 : ByteArray) (ps : List (Nat × ByteArray)) (p : Nat × ByteArray) : latK i s0 (ps ++ [p]) (ps ++ [p]).length = if p.1 = i then p.2 else latK i s0 ps ps.length := by
  rw [List.length_append, show [p].length = 1 from rfl, latK]
  have : (ps ++ [p]).getD ps.length nop = p := by simp [List.getD]
  rw [this, latK_append i s0 ps [p] ps.length (Nat.le_refl _)]
theorem layK_all (j : Nat) (l : List ByteArray) (ps : List (Nat × ByteArray)) (hp : ∀ p ∈ ps, p.1 < l.length ∧ p.2.size = 32) (hj : j < l.length) (k : Nat) (hk : k ≤ ps.length) :
    (layK all32 l ps k).getD j ByteArray.empty = latK j (l.getD j ByteArray.empty) ps k := by
  induction k with
  | zero => rfl
  | succ k ih =>
    have hpk := hp _ (getD_mem' (d := nop) (show k < ps.length by omega))
    rw [layK, latK, stepAt]
    have hlen := layK_len all32 l ps k
    generalize ps.getD k nop = p at *
    rw [show putAt p.2 ((layK all32 l ps k).getD p.1 ByteArray.empty) (all32 k) = p.2 from putAt_full _ _ hpk.2]
    by_cases h : p.1 = j
    · subst h
      simp [List.getD, hlen, hpk.1]
    · rw [if_neg h, ← ih (by omega)]
      simp [List.getD, h]
theorem latest_flush {d : D} (ok : d.ok) {j : Nat} (hj : j < d.last.length) : latest (flushD d) j = latest d j := by
  unfold latest
  show latK j ((layK all32 d.last d.wait d.wait.length).getD j ByteArray.empty) [] 0 = _
  rw [latK, layK_all j d.last d.wait ok.wlen hj _ (Nat.le_refl _)]
theorem latest_write (d : D) (i : Nat) (b : ByteArray) (arm : Nat) (down : Bool) (j : Nat) : latest { d with wait := d.wait ++ [(i, b)], arm := arm, down := down } j = if i = j then b else latest d j := by
  unfold latest
  exact latK_snoc j _ d.wait (i, b)
theorem latest_new (n : Nat) (h1 : 1 ≤ n) (h2 : n ≤ 64) (j : Nat) (hj : j < n) : latest (newD (n : Int)) j = noughts := by
  have : newD (n : Int) = ⟨List.replicate n noughts, [], 0, false⟩ := by unfold newD; rw [if_pos (by omega)]; simp
  rw [this]
  simp [latest, latK, List.getD, hj]

/-- A disk of n sectors that lives, and whose power does not go. -/
structure Fine (d : D) (n : Nat) : Prop where
  ok : d.ok
  down : d.down = false
  arm : d.arm = 0
  n : d.last.length = n
theorem Fine.write {d : D} {n i : Nat} {b : ByteArray} (h : Fine d n) (hi : i < n) (hb : b.size = 32) (hm : d.wait.length < 1000) :
    ∃ d', writeD d i b = (d', true) ∧ Fine d' n ∧ d'.wait.length = d.wait.length + 1 ∧ (∀ j, latest d' j = if i = j then b else latest d j) ∧ d'.last = d.last ∧ d'.wait = d.wait ++ [(i, b)] := by
  have hw := write_yes h.down (by rw [h.n]; exact hi) hb
  have hok := ok_write h.ok hm (i : Int) b
  rw [hw] at hok
  refine ⟨{ d with wait := d.wait ++ [(i, b)], arm := d.arm - 1, down := decide (d.arm = 1) }, ?_, ⟨hok, ?_, ?_, h.n⟩, by simp, fun j => latest_write d i b _ _ j, rfl, rfl⟩
  · rw [hw]
    simp [h.arm]
  · simp [h.arm]
  · simp [h.arm]
theorem Fine.flush {d : D} {n : Nat} (h : Fine d n) : flush2 d = (flushD d, true) ∧ Fine (flushD d) n ∧ (flushD d).wait.length = 0 ∧ (∀ j, j < n → latest (flushD d) j = latest d j) := by
  refine ⟨by simp [flush2, h.down], ⟨ok_flush h.ok, h.down, h.arm, ?_⟩, rfl, fun j hj => latest_flush h.ok (by rw [h.n]; exact hj)⟩
  simp only [flushD, layK_len]
  exact h.n
theorem Fine.read {d : D} {n i : Nat} (h : Fine d n) (hi : i < n) : readD d i = (latest d i, true) := by
  have hh : hasB d (i : Int) = true := by simp [hasB, h.down, h.n]; omega
  simp [readD, hh]
theorem fine_new (n : Nat) (h1 : 1 ≤ n) (h2 : n ≤ 64) : Fine (newD (n : Int)) n ∧ (newD (n : Int)).wait.length = 0 := by
  have e : newD (n : Int) = ⟨List.replicate n noughts, [], 0, false⟩ := by unfold newD; rw [if_pos (by omega)]; simp
  have hok := ok_new (n : Int)
  rw [e] at hok ⊢
  exact ⟨⟨hok, rfl, rfl, by simp⟩, rfl⟩

end Go.Proofs.Yteohdkilgigomaa.dsk
