/- What the laws of the journal want of it. -/
import Derived.Test.YtegfdigljpnhcaaJmu
namespace Go.Proofs.Ytegfdigljpnhcaa.jmt
set_option maxRecDepth 100000
set_option linter.unusedVariables false
set_option linter.unusedSimpArgs false
open dsk

theorem read_dk {L : List ByteArray} (hc : Calm L) {a i : Nat} (hi : i < 17) : readD (dk L a) (i : Int) = (L.getD i e0, true) := by
  have h : hasB (dk L a) (i : Int) = true := by
    have := hc.n
    simp [hasB]; omega
  rw [readD, if_pos h]
  rfl
/-- What was put is there. -/
theorem put_there {L M : List ByteArray} {p : List Pt} (hc : Calm L) (hp : Puts p) (h : Same8 M (setAll L p)) (k : Nat) (hk : k < p.length) : M.getD p[k].1 e0 = p[k].2 := by
  have hlt := hp.lt p[k] (List.getElem_mem hk)
  rw [h p[k].1 hlt, setAll_at p L p[k].1 (by rw [hc.n]; omega), (lk_ris p 8 (-1) hp.ris k hk).1]
  rfl
/-- A head of which so much lasts. -/
theorem head_part {L : List ByteArray} {p : List Pt} (hc : Calm L) (hp : Puts p) (keep : List Int) : ∃ L', Calm L' ∧ crashD ⟨S2 L p, [(8, headB (ats p))], 0, true⟩ keep = dk L' 0 ∧ (keepAt keep 0 = 32 → named L' 8 = some p ∧ Same8 (mended L') (setAll L p)) ∧ (keepAt keep 0 ≠ 32 → named L' 8 = none ∧ Same8 (mended L') L) := by
  have hf := fit_h hp
  have h28 : (S2 L p).getD 8 e0 = noughts := by rw [s2_low hc hp 8 (by omega), s1_at hc 8 (by omega), if_pos rfl]
  have hset : layK (keepAt keep) (S2 L p) [(8, headB (ats p))] 1 = (S2 L p).set 8 (putAt (headB (ats p)) noughts (keepAt keep 0)) := by
    rw [← h28]; rfl
  refine ⟨layK (keepAt keep) (S2 L p) [(8, headB (ats p))] 1, calm_lay (calm2 hc hp) hf keep _ (by simp), rfl, fun hk => ?_, fun hk => ?_⟩
  · rw [hset, hk, put_all _ _ (head_size (by have := hp.few; simp; omega)) nought_size]
    have : (S2 L p).set 8 (headB (ats p)) = S3 L p := rfl
    rw [this]
    refine ⟨s3_named hc hp, ?_⟩
    simp only [mended, s3_named hc hp]
    exact s4_sees hc hp
  · rw [hset]
    have hkl := keepAt_le keep 0
    have h8 : 8 < (S2 L p).length := by rw [(calm2 hc hp).n]; omega
    have hno : named ((S2 L p).set 8 (putAt (headB (ats p)) noughts (keepAt keep 0))) 8 = none := named_none fun a ha => by
      have : ((S2 L p).set 8 (putAt (headB (ats p)) noughts (keepAt keep 0))).getD 8 e0 = putAt (headB (ats p)) noughts (keepAt keep 0) := by simp [List.getD, h8]
      rw [this]
      exact part_no hp (by omega) a ha
    refine ⟨hno, ?_⟩
    rw [mended_none hno]
    intro i hi
    have hne : ¬ 8 = i := by omega
    have : ((S2 L p).set 8 (putAt (headB (ats p)) noughts (keepAt keep 0))).getD i e0 = (S2 L p).getD i e0 := by simp [List.getD, List.getElem?_set, hne]
    rw [this, s2_low hc hp i (by omega), s1_at hc i (by omega), if_neg (by omega)]
end Go.Proofs.Ytegfdigljpnhcaa.jmt
