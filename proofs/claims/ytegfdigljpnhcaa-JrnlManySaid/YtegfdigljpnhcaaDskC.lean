/- Contracts of package disk, twelfth part: Write, Flush, Crash. -/
import Derived.Test.YtegfdigljpnhcaaDskB
namespace Go.Proofs.Ytegfdigljpnhcaa.dsk
set_option maxRecDepth 100000
open Go.RowKit

theorem write1_no (q p s : Nat) (al aw : Option Addr) (cl cw : Nat) (d : D) (i : Int) (b : ByteArray) (w : World) (hb : BoxD w q al d.last.length cl aw d.wait.length cw d.arm d.down) (hp : w.cell? ⟨p, 0, none⟩ = some (.int .i64 i)) (hs : w.cell? ⟨s, 0, none⟩ = some (.string b))
    (hn : ¬ (hasB d i = true ∧ b.size = 32)) :
    Calls Try.prog 69 #[.pointer (some ⟨q, 0, none⟩), .pointer (some ⟨p, 0, none⟩), .pointer (some ⟨s, 0, none⟩)] w (BoomE w) := by
  have lp : p < w.heap.size := World.block_lt_of_cell? w _ hp
  have ls : s < w.heap.size := World.block_lt_of_cell? w _ hs
  have lq : q < w.heap.size := hb.lt
  have G0 := Ex.mk_alloc w (.cells #[.slice none 0 0, .slice none 0 0, .int .i64 0, .bool false] 28)
  have hp0 := G0.on hp
  have hs0 := G0.on hs
  have HB := Lib.hid (hb.ex G0)
  by_cases hdn : d.down = true
  · rw [hdn] at HB
    obtain ⟨c0, c1, c2, c3⟩ := HB.out
    have HG := Lib.hid G0
    clear hb hdn hn hp hs G0 hp0 hs0
    go_enter Try.func69, Try.ntmps69
    go_wp2_with fail
    refine (mustLive_no _ _ _ _ _ _ _ _).mono ?_
    rintro e w1 ⟨u, v, rfl, g1⟩
    exact ⟨rfl, _, _, rfl, Ex.trans HG.out g1⟩
  · have hdn : d.down = false := by simpa using hdn
    rw [hdn] at HB
    obtain ⟨c0, c1, c2, c3⟩ := HB.out
    have HG := Lib.hid G0
    by_cases hin : inN d.last.length i = true
    · have hb32 : ¬ b.size = 32 := fun e => hn ⟨by obtain ⟨h1, h2⟩ := inN_yes hin; simp [hasB, hdn, h1, h2], e⟩
      have HH := Lib.hid (fun w => mustHave_yes al aw d.last.length cl d.wait.length cw d.arm false i w hin)
      have HF := Lib.hid (fun w => mustFill_no b w hb32)
      clear hb hdn hn hp hs G0 hin hb32
      go_enter Try.func69, Try.ntmps69
      go_wp2_with fail
      refine (mustLive_yes _ _ _ _ _ _ _ _).mono ?_
      rintro e w1 ⟨rfl, g1⟩
      obtain ⟨c0, c1, c2, c3⟩ := HB.out.ex g1
      have hp1 := g1.on hp0
      have hs1 := g1.on hs0
      clear hp0 hs0
      go_wp2_with fail
      refine (HH.out _).mono ?_
      rintro e w2 ⟨rfl, g2⟩
      have hs2 := g2.on hs1
      clear hs1
      go_wp2_with fail
      refine (HF.out _).mono ?_
      rintro e w3 ⟨u, v, rfl, g3⟩
      exact ⟨rfl, _, _, rfl, Ex.trans HG.out (Ex.trans g1 (Ex.trans g2 g3))⟩
    · have hin : inN d.last.length i = false := by simpa using hin
      have HH := Lib.hid (fun w => mustHave_no al aw d.last.length cl d.wait.length cw d.arm false i w hin)
      clear hb hdn hn hp hs G0 hin
      go_enter Try.func69, Try.ntmps69
      go_wp2_with fail
      refine (mustLive_yes _ _ _ _ _ _ _ _).mono ?_
      rintro e w1 ⟨rfl, g1⟩
      obtain ⟨c0, c1, c2, c3⟩ := HB.out.ex g1
      have hp1 := g1.on hp0
      have hs1 := g1.on hs0
      clear hp0 hs0
      go_wp2_with fail
      refine (HH.out _).mono ?_
      rintro e w2 ⟨u, v, rfl, g2⟩
      exact ⟨rfl, _, _, rfl, Ex.trans HG.out (Ex.trans g1 g2)⟩

set_option maxRecDepth 100000 in
set_option maxHeartbeats 1000000 in
theorem write_any (v : Value) (d : D) (i : Int) (b : ByteArray) (w : World) (hd : IsD w v d) (ok : d.ok) : Calls Try.prog 53 #[v, .int .i64 i, .string b] w (TellsDB w (writeD d i b).1 (writeD d i b).2) := by
  have OK := Lib.hid ok
  have HD := Lib.hid hd
  obtain ⟨al, cl, aw, cw, rfl, hl, hw⟩ := hd
  clear hl hw ok
  go_enter Try.func53, Try.ntmps53
  go_wp2_with fail
  generalize hW : (((w.alloc _).alloc _).alloc _).alloc _ = W1
  have HX : ∀ wr, Ex W1 wr → BoxD wr w.heap.size al d.last.length cl aw d.wait.length cw d.arm d.down ∧ wr.cell? ⟨w.heap.size + 1, 0, none⟩ = some (.int .i64 i) ∧ wr.cell? ⟨w.heap.size + 1 + 1, 0, none⟩ = some (.string b) := by
    subst hW
    intro wr g
    obtain ⟨c, _, c2, _, c3, _⟩ := box3 (Ex.trans (Ex.mk_alloc _ _) g)
    exact ⟨⟨c 0 _ rfl, c 1 _ rfl, c 2 _ rfl, c 3 _ rfl⟩, c2 0 _ rfl, c3 0 _ rfl⟩
  have hg : Ex w W1 := by subst hW; exact (((Ex.mk_alloc _ _).al _).al _).al _
  have hr : ∀ wr, Ex W1 wr → (wr.cell? ⟨w.heap.size + 1 + 1 + 1, 0, none⟩ = some (.slice none 0 0) ∧ wr.cell? ⟨w.heap.size + 1 + 1 + 1, 1, none⟩ = some (.slice none 0 0) ∧ wr.cell? ⟨w.heap.size + 1 + 1 + 1, 2, none⟩ = some (.int .i64 0) ∧ wr.cell? ⟨w.heap.size + 1 + 1 + 1, 3, none⟩ = some (.bool false)) ∧ (∀ i, wr.frozen? ⟨w.heap.size + 1 + 1 + 1, i, none⟩ = false) ∧ w.heap.size + 4 ≤ wr.heap.size := by
    subst hW
    intro wr g
    have h4 := box4 g
    have hf := fun i => box_frozen g i
    simp only [World.size_alloc] at h4 hf
    exact ⟨h4, hf, by have := g.size; simp at this; omega⟩
  clear hW
  have hR : Calls Try.prog 68 #[.agg #[.slice al d.last.length cl, .slice aw d.wait.length cw, .int .i64 (d.arm : Int), .bool d.down], .func (.func 69) #[] #[.pointer (some ⟨w.heap.size, 0, none⟩), .pointer (some ⟨w.heap.size + 1, 0, none⟩), .pointer (some ⟨w.heap.size + 1 + 1, 0, none⟩)]] W1 (TellsDB W1 (writeD d i b).1 (writeD d i b).2) := by
    by_cases hh : hasB d i = true ∧ b.size = 32
    · obtain ⟨h1, h2, h3⟩ := hasB_yes hh.1
      obtain ⟨j, rfl⟩ : ∃ j : Nat, i = (j : Int) := ⟨i.toNat, by omega⟩
      rw [show (writeD d (j : Int) b).2 = !(writeD d (j : Int) b).1.down by rw [write_yes h1 (by omega) hh.2]]
      refine orAsItWas_ok _ _ _ d _ _ (HD.out.ex hg) (call37 _) fun w1 g1 => ?_
      obtain ⟨k1, k2, k3⟩ := HX w1 g1
      exact write1_yes _ _ _ al aw cl cw d j b w1 k1 k2 k3 (HD.out.ex (Ex.trans hg g1)) OK.out h1 (by omega) hh.2
    · rw [write_no hh]
      refine orAsItWas_no _ _ _ d _ (HD.out.ex hg) OK.out (call37 _) fun w1 g1 => ?_
      obtain ⟨k1, k2, k3⟩ := HX w1 g1
      exact write1_no _ _ _ al aw cl cw d i b w1 k1 k2 k3 hh
  have HR := Lib.hid hR
  have Hr := Lib.hid hr
  clear hR hr HX
  refine HR.out.mono ?_
  rintro e w2 ⟨u, rfl, ho, g⟩
  generalize writeD d i b = r at *
  obtain ⟨d', ok'⟩ := r
  obtain ⟨bl, dl, bw, dw, rfl⟩ := ho.form
  obtain ⟨⟨r0, r1, r2, r3⟩, rf, hz⟩ := Hr.out _ g
  have rf0 := rf 0
  have rf1 := rf 1
  have rf2 := rf 2
  have rf3 := rf 3
  have HO := Lib.hid (OwnD.mono (base' := w.heap.size + 4) ho (Hr.out _ (Ex.refl _)).2.2)
  have G := Lib.hid (Ex.trans hg g)
  clear ho g rf
  go_wp2_with fail
  refine bodyPost_ret (v := .tuple #[.agg #[.slice bl d'.last.length dl, .slice bw d'.wait.length dw, .int .i64 (d'.arm : Int), .bool d'.down], .bool ok']) (by simp [results, Try.results53, go_sem, r0, r1, r2, r3]) rfl ⟨_, rfl, OwnD.mono (base := w.heap.size + 4) ?_ (by omega), ?_⟩
  · repeat with_reducible (refine OwnD.st ?_ (by dsimp only; omega) _)
    exact HO.out
  · repeat with_reducible (refine Ex.st ?_ (by dsimp only; omega) _)
    exact G.out

end Go.Proofs.Ytegfdigljpnhcaa.dsk
