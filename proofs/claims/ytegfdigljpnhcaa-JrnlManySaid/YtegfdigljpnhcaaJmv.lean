/- What the laws of the journal want of it. -/
import Derived.Test.YtegfdigljpnhcaaJmu
namespace Go.Proofs.Ytegfdigljpnhcaa.jmt
set_option maxRecDepth 100000
set_option linter.unusedVariables false
set_option linter.unusedSimpArgs false
open dsk

theorem read_dk {L : List ByteArray} (hc : Calm L) {a i : Nat} (hi : i < 17) : readD (dk L a) (i : Int) = (L.getD i e0, true) := by
  have h : hasB (dk L a) (i : Int) = true := by
    have := hc.n
    simp [hasB]; omega
  rw [readD, if_pos h]
  rfl
theorem same8_trans {A B C : List ByteArray} (h1 : Same8 A B) (h2 : Same8 B C) : Same8 A C := fun i hi => (h1 i hi).trans (h2 i hi)
theorem same8_symm {A B : List ByteArray} (h1 : Same8 A B) : Same8 B A := fun i hi => (h1 i hi).symm
theorem same8_rfl {A : List ByteArray} : Same8 A A := fun _ _ => rfl
/-- A commit, whenever the power goes. -/
theorem commit_all {L : List ByteArray} {p : List Pt} {a : Nat} (hc : Calm L) (hp : p = [] ∨ Puts p) (hm : Same8 (mended L) L) (ha : a ≤ 1000) :
    (commitD (dk L a) 8 p).1.ok ∧ ∀ keep, ∃ L', Calm L' ∧ crashD (commitD (dk L a) 8 p).1 keep = dk L' 0 ∧ (Same8 (mended L') (setAll L p) ∨ (commitD (dk L a) 8 p).2 = false ∧ Same8 (mended L') L) := by
  rcases hp with rfl | hp
  · have hm0 : commitD (dk L a) 8 [] = (dk L a, true) := by simp only [commitD, if_true]
    rw [hm0]
    exact ⟨ok_dk hc ha, fun keep => ⟨L, hc, rfl, .inl hm⟩⟩
  · by_cases hcut : 1 ≤ a ∧ a ≤ 2 + 2 * p.length
    · obtain ⟨d', h1, h2, h3, h4⟩ := commit_cut hc hp hm hcut.1 hcut.2
      rw [h1]
      refine ⟨h3, fun keep => ?_⟩
      obtain ⟨L', h5, h6, h7⟩ := h4 keep
      exact ⟨L', h6, h5, h7.imp id fun h => ⟨rfl, h⟩⟩
    · rw [commit_done hc hp (by omega)]
      refine ⟨ok_dk (calm4 hc hp) (by omega), fun keep => ⟨S4 L p, calm4 hc hp, rfl, .inl ?_⟩⟩
      rw [s4_mended hc hp]
      exact s4_sees hc hp
/-- One with all the power there is. -/
theorem commit_now {L : List ByteArray} {p : List Pt} (hc : Calm L) (hp : p = [] ∨ Puts p) (hm : Same8 (mended L) L) : ∃ M, Calm M ∧ commitD (dk L 0) 8 p = (dk M 0, true) ∧ Same8 M (setAll L p) ∧ Same8 (mended M) M := by
  rcases hp with rfl | hp
  · exact ⟨L, hc, by simp only [commitD, if_true], same8_rfl, hm⟩
  · refine ⟨S4 L p, calm4 hc hp, ?_, s4_sees hc hp, ?_⟩
    · rw [commit_done hc hp (.inl rfl), Nat.zero_sub]
    · rw [s4_mended hc hp]; exact same8_rfl
theorem mended_clean {L : List ByteArray} (hc : Calm L) : Same8 (mended (mended L)) (mended L) := by rw [mended_twice hc]; exact same8_rfl
/-- What was put is there. -/
theorem put_there {L M : List ByteArray} {p : List Pt} (hc : Calm L) (hp : Puts p) (h : Same8 M (setAll L p)) (k : Nat) (hk : k < p.length) : M.getD p[k].1 e0 = p[k].2 := by
  have hlt := hp.lt p[k] (List.getElem_mem hk)
  rw [h p[k].1 hlt, setAll_at p L p[k].1 (by rw [hc.n]; omega), (lk_ris p 8 (-1) hp.ris k hk).1]
  rfl
/-- A head of which so much lasts. -/
theorem head_part {L : List ByteArray} {p : List Pt} (hc : Calm L) (hp : Puts p) (keep : List Int) : ∃ L', Calm L' ∧ crashD ⟨S2 L p, [(8, headB (ats p))], 0, true⟩ keep = dk L' 0 ∧ (keepAt keep 0 = 32 → named L' 8 = some p ∧ Same8 (mended L') (setAll L p)) ∧ (keepAt keep 0 ≠ 32 → named L' 8 = none ∧ Same8 (mended L') L) := by
  have hf := fit_h hp
  have h28 : (S2 L p).getD 8 e0 = noughts := by rw [s2_low hc hp 8 (by omega), s1_at hc 8 (by omega), if_pos rfl]
  have hset : layK (keepAt keep) (S2 L p) [(8, headB (ats p))] 1 = (S2 L p).set 8 (putAt (headB (ats p)) noughts (keepAt keep 0)) := by
    rw [← h28]; rfl
  refine ⟨layK (keepAt keep) (S2 L p) [(8, headB (ats p))] 1, calm_lay (calm2 hc hp) hf keep _ (by simp), rfl, fun hk => ?_, fun hk => ?_⟩
  · rw [hset, hk, put_all _ _ (head_size (by have := hp.few; simp; omega)) nought_size]
    have : (S2 L p).set 8 (headB (ats p)) = S3 L p := rfl
    rw [this]
    refine ⟨s3_named hc hp, ?_⟩
    simp only [mended, s3_named hc hp]
    exact s4_sees hc hp
  · rw [hset]
    have hkl := keepAt_le keep 0
    have h8 : 8 < (S2 L p).length := by rw [(calm2 hc hp).n]; omega
    have hno : named ((S2 L p).set 8 (putAt (headB (ats p)) noughts (keepAt keep 0))) 8 = none := named_none fun a ha => by
      have : ((S2 L p).set 8 (putAt (headB (ats p)) noughts (keepAt keep 0))).getD 8 e0 = putAt (headB (ats p)) noughts (keepAt keep 0) := by simp [List.getD, h8]
      rw [this]
      exact part_no hp (by omega) a ha
    refine ⟨hno, ?_⟩
    rw [mended_none hno]
    intro i hi
    have hne : ¬ 8 = i := by omega
    have : ((S2 L p).set 8 (putAt (headB (ats p)) noughts (keepAt keep 0))).getD i e0 = (S2 L p).getD i e0 := by simp [List.getD, List.getElem?_set, hne]
    rw [this, s2_low hc hp i (by omega), s1_at hc i (by omega), if_neg (by omega)]
end Go.Proofs.Ytegfdigljpnhcaa.jmt
