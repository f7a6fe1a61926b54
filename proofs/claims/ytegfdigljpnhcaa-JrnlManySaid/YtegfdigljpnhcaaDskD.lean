/- Contracts of package disk, thirteenth part: Flush, Crash. -/
import Derived.Test.YtegfdigljpnhcaaDskC
namespace Go.Proofs.Ytegfdigljpnhcaa.dsk
set_option maxRecDepth 100000
open Go.RowKit

theorem comes_whole (w : World) : Comes w 77 #[] all32 := by
  intro w1 k a b _ ha hb
  refine (whole_any (k : Int) a b w1).mono ?_
  rintro e w' ⟨rfl, rfl⟩
  exact ⟨by rw [show putAt b a (all32 k) = b from putAt_full a b hb], 0, rfl⟩
theorem gb_q {a b : World} {q i : Nat} (h : a.grownBy b (some q)) (u : Value) : a.grownBy (b.setCell ⟨q, i, none⟩ u) (some q) := by
  have k : Below 0 b (b.setCell ⟨q, i, none⟩ u) := (Below.refl 0 b).setCell (Nat.zero_le _) u
  exact ⟨k.os.trans h.os, k.tape.trans h.tape, k.output.trans h.output, Nat.le_trans h.size k.size, fun j hj hne => (Below.heap_setCell b ⟨q, i, none⟩ u j (fun e => hne (by rw [e]))).trans (h.block j hj hne)⟩

set_option maxRecDepth 100000 in
set_option maxHeartbeats 1000000 in
theorem flush1_yes (q : Nat) (al aw : Option Addr) (cl cw : Nat) (d : D) (w : World) (hb : BoxD w q al d.last.length cl aw d.wait.length cw d.arm d.down) (hf : ∀ i, w.frozen? ⟨q, i, none⟩ = false)
    (hd : IsD w (.agg #[.slice al d.last.length cl, .slice aw d.wait.length cw, .int .i64 (d.arm : Int), .bool d.down]) d) (ok : d.ok) (hdn : d.down = false) :
    Calls Try.prog 75 #[.pointer (some ⟨q, 0, none⟩)] w (TellsDq q w (flushD d)) := by
  have HD := Lib.hid hd
  have OK := Lib.hid ok
  have lq : q < w.heap.size := hb.lt
  have G0 := Ex.mk_alloc w (.cells #[.slice none 0 0, .slice none 0 0, .int .i64 0, .bool false] 28)
  have HB := Lib.hid (hb.ex G0)
  have HF := Lib.hid (fun i => G0.fz (p := ⟨q, i, none⟩) lq (hf i))
  have HN := Lib.hid hdn
  obtain ⟨c0, c1, c2, c3⟩ := HB.out
  rw [hdn] at c3
  clear hd ok hb hf hdn
  go_enter Try.func75, Try.ntmps75
  go_wp2_with fail
  generalize hW : World.alloc w _ = W1 at *
  have HX := Lib.hid (fun (wr : World) (g : Ex W1 wr) => show (wr.cell? ⟨w.heap.size, 0, none⟩ = some (.slice none 0 0) ∧ wr.cell? ⟨w.heap.size, 1, none⟩ = some (.slice none 0 0) ∧ wr.cell? ⟨w.heap.size, 2, none⟩ = some (.int .i64 0) ∧ wr.cell? ⟨w.heap.size, 3, none⟩ = some (.bool false)) ∧ (∀ i, wr.frozen? ⟨w.heap.size, i, none⟩ = false) ∧ w.heap.size + 1 ≤ wr.heap.size by
    subst hW
    exact ⟨box4 g, fun i => box_frozen g i, by have := g.size; simp at this; omega⟩)
  clear hW
  refine (mustLive_yes _ _ _ _ _ _ _ _).mono ?_
  rintro e w1 ⟨rfl, g1⟩
  obtain ⟨c0, c1, c2, c3⟩ := HB.out.ex g1
  have G1 := Lib.hid g1
  have GG := Lib.hid (Ex.trans G0 g1)
  clear g1 G0
  go_wp2_with fail
  refine (lasting_any 77 #[] all32 call27 _ d _ (HD.out.ex GG.out) OK.out (comes_whole _) (fun _ => Nat.le_refl _)).mono ?_
  rintro e w2 ⟨u, rfl, ho, g2⟩
  obtain ⟨ua, uc, rfl, _, _⟩ := (RowE.of_own (E := encS) ho).1.len
  obtain ⟨c0, c1, c2, c3⟩ := HB.out.ex (Ex.trans G1.out g2)
  obtain ⟨⟨r0, r1, r2, r3⟩, rf, hz⟩ := HX.out _ (Ex.trans G1.out g2)
  have rf0 := rf 0
  have rf1 := rf 1
  have rf2 := rf 2
  have rf3 := rf 3
  have HF2 := fun i => Ex.fz (Ex.trans G1.out g2) (p := ⟨q, i, none⟩) (by have := (HX.out _ (Ex.refl _)).2.2; show q < _; omega) (HF.out i)
  have q0 := HF2 0
  have q1 := HF2 1
  have HO := Lib.hid (own_mono (base' := w.heap.size + 1) ho (HX.out _ G1.out).2.2)
  have G2 := Lib.hid (Ex.trans GG.out g2)
  have hne : ¬ (q = w.heap.size) := by omega
  have hne' : ¬ (w.heap.size = q) := by omega
  clear ho g2 rf HF2
  go_wp2_with fail
  refine bodyPost_ret (v := .agg #[.slice ua (layK all32 d.last d.wait d.wait.length).length uc, .slice none 0 0, .int .i64 (d.arm : Int), .bool d.down]) (by simp [results, Try.results75, go_sem, r0, r1, r2, r3]) rfl ⟨_, rfl, OwnD.mono (base := w.heap.size + 1) ⟨.slice ua (layK all32 d.last d.wait d.wait.length).length uc, .slice none 0 0, rfl, ?_, World.ownsRow_nil _ _ _ _⟩ (by omega), ?_⟩
  · repeat with_reducible (refine ownsRow_setCell_below ?_ (by dsimp only; omega) _)
    exact HO.out
  · repeat with_reducible (refine gb_st ?_ (by dsimp only; omega) _)
    exact gb_q (gb_q (gb_ex G2.out _) _) _

theorem flush1_no (q : Nat) (al aw : Option Addr) (cl cw : Nat) (d : D) (w : World) (hb : BoxD w q al d.last.length cl aw d.wait.length cw d.arm d.down) (hdn : d.down = true) :
    Calls Try.prog 75 #[.pointer (some ⟨q, 0, none⟩)] w (BoomE w) := by
  have lq : q < w.heap.size := hb.lt
  have G0 := Ex.mk_alloc w (.cells #[.slice none 0 0, .slice none 0 0, .int .i64 0, .bool false] 28)
  obtain ⟨c0, c1, c2, c3⟩ := hb.ex G0
  rw [hdn] at c3
  have HG := Lib.hid G0
  clear hb hdn G0
  go_enter Try.func75, Try.ntmps75
  go_wp2_with fail
  refine (mustLive_no _ _ _ _ _ _ _ _).mono ?_
  rintro e w1 ⟨u, v, rfl, g1⟩
  exact ⟨rfl, _, _, rfl, Ex.trans HG.out g1⟩

set_option maxRecDepth 100000 in
set_option maxHeartbeats 1000000 in
theorem flush_any (v : Value) (d : D) (w : World) (hd : IsD w v d) (ok : d.ok) : Calls Try.prog 54 #[v] w (TellsDB w (flush2 d).1 (flush2 d).2) := by
  have OK := Lib.hid ok
  have HD := Lib.hid hd
  obtain ⟨al, cl, aw, cw, rfl, hl, hw⟩ := hd
  clear hl hw ok
  go_enter Try.func54, Try.ntmps54
  go_wp2_with fail
  generalize hW : (w.alloc _).alloc _ = W1
  have HB := Lib.hid (boxes hW)
  clear hW
  have hR : Calls Try.prog 68 #[.agg #[.slice al d.last.length cl, .slice aw d.wait.length cw, .int .i64 (d.arm : Int), .bool d.down], .func (.func 75) #[] #[.pointer (some ⟨w.heap.size, 0, none⟩)]] W1 (TellsDBq w.heap.size W1 (flush2 d).1 (flush2 d).2) := by
    by_cases hdn : d.down = true
    · rw [show flush2 d = (d, false) by simp [flush2, hdn]]
      refine (orAsItWas_no _ _ _ d _ (HD.out.ex HB.out.g) OK.out (call24 _) fun w1 g1 => ?_).mono ?_
      · exact flush1_no _ al aw cl cw d w1 (BoxD.ex ⟨HB.out.c0, HB.out.c1, HB.out.c2, HB.out.c3⟩ g1) hdn
      · rintro e w' ⟨v, he, ho, hg⟩
        exact ⟨v, he, ho, gb_ex hg _⟩
    · have hdn : d.down = false := by simpa using hdn
      rw [show flush2 d = (flushD d, !(flushD d).down) by simp [flush2, hdn, flushD]]
      refine orAsItWas_okq w.heap.size _ _ _ d _ _ HB.out.q0 (HD.out.ex HB.out.g) (call24 _) fun w1 g1 => ?_
      have hb1 := HB.out.ex g1
      exact flush1_yes _ al aw cl cw d w1 ⟨hb1.c0, hb1.c1, hb1.c2, hb1.c3⟩ hb1.fq (HD.out.ex (Ex.trans HB.out.g g1)) OK.out hdn
  have HR := Lib.hid hR
  clear hR
  refine HR.out.mono ?_
  rintro e w2 ⟨u, rfl, ho, g⟩
  generalize flush2 d = r at *
  obtain ⟨d', ok'⟩ := r
  obtain ⟨bl, dl, bw, dw, rfl⟩ := ho.form
  have hne : w.heap.size + 1 ≠ w.heap.size := by omega
  have r0 := gb_cell g hne HB.out.r0
  have r1 := gb_cell g hne HB.out.r1
  have r2 := gb_cell g hne HB.out.r2
  have r3 := gb_cell g hne HB.out.r3
  have rf0 := gb_fz g hne HB.out.q1 (HB.out.fr 0)
  have rf1 := gb_fz g hne HB.out.q1 (HB.out.fr 1)
  have rf2 := gb_fz g hne HB.out.q1 (HB.out.fr 2)
  have rf3 := gb_fz g hne HB.out.q1 (HB.out.fr 3)
  have HO := Lib.hid (OwnD.mono (base' := w.heap.size + 2) ho HB.out.q)
  have G : Hid (Ex w w2) := Lib.hid (Below.grown HB.out.g g HB.out.g.size (fun k e => by cases e; exact Nat.le_refl _))
  clear ho g hne
  go_wp2_with fail
  refine bodyPost_ret (v := .tuple #[.agg #[.slice bl d'.last.length dl, .slice bw d'.wait.length dw, .int .i64 (d'.arm : Int), .bool d'.down], .bool ok']) (by simp [results, Try.results54, go_sem, r0, r1, r2, r3]) rfl ⟨_, rfl, OwnD.mono (base := w.heap.size + 2) ?_ (by omega), ?_⟩
  · repeat with_reducible (refine OwnD.st ?_ (by dsimp only; omega) _)
    exact HO.out
  · repeat with_reducible (refine Ex.st ?_ (by dsimp only; omega) _)
    exact G.out

end Go.Proofs.Ytegfdigljpnhcaa.dsk
