/- Contracts of package disk, eighth part: as it was, or what was answered. -/
import Derived.Test.YtegfdigljpnhcaaDsk7
namespace Go.Proofs.Ytegfdigljpnhcaa.dsk
set_option maxRecDepth 100000
open Go.RowKit

theorem OwnD.dr {base : Nat} {w : World} {v : Value} {d : D} (h : OwnD base w v d) : OwnD base w.drew v d := h
theorem OwnD.al {base : Nat} {w : World} {v : Value} {d : D} (h : OwnD base w v d) (o : Obj) : OwnD base (w.alloc o) v d := h.ex (Ex.mk_alloc _ _)

set_option maxRecDepth 100000 in
set_option maxHeartbeats 1000000 in
theorem orAsItWas_ok (fid : FuncId) (cap : Array Value) (v : Value) (d0 d : D) (w : World) (hd : IsD w v d0) (hc : ∀ w, (callFunc fid cap).run Try.prog w = .ok (.enter fid cap) w)
    (h : ∀ w1, Ex w w1 → Calls Try.prog fid cap w1 (TellsD w1 d)) :
    Calls Try.prog 68 #[v, .func (.func fid) #[] cap] w (TellsDB w d (!d.down)) := by
  have H := Lib.hid h
  have HC := Lib.hid hc
  clear h hc
  obtain ⟨al, cl, aw, cw, rfl, hl, hw⟩ := hd
  clear hl hw
  go_enter Try.func68, Try.ntmps68
  go_wp2_with fail
  generalize hW : (w.alloc _).alloc _ = W1
  have HB := Lib.hid (boxes hW)
  clear hW
  refine (orNo_disk_ok fid cap W1 d HC.out (fun w1 hw1 => H.out w1 (Ex.trans HB.out.g hw1))).mono ?_
  rintro e w2 ⟨u, rfl, ho, g⟩
  have HO := Lib.hid ho
  obtain ⟨bl, dl, bw, dw, rfl⟩ := ho.form
  obtain ⟨-, -, -, -, -, -, -, s0, s1, s2, s3, sf⟩ := HB.out.ex g
  have sf0 := sf 0
  have sf1 := sf 1
  have sf2 := sf 2
  have sf3 := sf 3
  have hq1 := (HB.out.ex g).q1
  have G := Lib.hid (Ex.trans HB.out.g g)
  have HQ := Lib.hid HB.out.q
  clear ho g sf
  go_wp2_with fail
  go_region
  all_goals
    go_wp2_with fail
    have hq := HB.out.q
    refine bodyPost_ret (v := .tuple #[.agg #[.slice bl d.last.length dl, .slice bw d.wait.length dw, .int .i64 (d.arm : Int), .bool d.down], .bool (!d.down)]) (by simp [results, Try.results68, go_sem, s0, s1, s2, s3, hq1]) rfl ⟨_, rfl, OwnD.mono (base := W1.heap.size) ?_ (by omega), ?_⟩
    · repeat (with_reducible (first | refine OwnD.dr ?_ | refine OwnD.al ?_ _ | refine OwnD.st ?_ (by dsimp only; omega) _))
      exact HO.out
    · repeat (with_reducible (first | refine Ex.dr ?_ | refine Ex.al ?_ _ | refine Ex.st ?_ (by dsimp only; omega) _))
      exact G.out

set_option maxRecDepth 100000 in
set_option maxHeartbeats 1000000 in
theorem orAsItWas_no (fid : FuncId) (cap : Array Value) (v : Value) (d0 : D) (w : World) (hd : IsD w v d0) (ok : d0.ok) (hc : ∀ w, (callFunc fid cap).run Try.prog w = .ok (.enter fid cap) w)
    (h : ∀ w1, Ex w w1 → Calls Try.prog fid cap w1 (BoomE w1)) :
    Calls Try.prog 68 #[v, .func (.func fid) #[] cap] w (TellsDB w d0 false) := by
  have H := Lib.hid h
  have HC := Lib.hid hc
  have HD := Lib.hid hd
  have OK := Lib.hid ok
  clear h hc ok
  obtain ⟨al, cl, aw, cw, rfl, hl, hw⟩ := hd
  clear hl hw
  go_enter Try.func68, Try.ntmps68
  go_wp2_with fail
  generalize hW : (w.alloc _).alloc _ = W1
  have HB := Lib.hid (boxes hW)
  clear hW
  refine (orNo_disk_no fid cap W1 HC.out (fun w1 hw1 => H.out w1 (Ex.trans HB.out.g hw1))).mono ?_
  rintro e w2 ⟨rfl, g⟩
  unfold Zero
  obtain ⟨-, -, c0, c1, c2, c3, -, s0, s1, s2, s3, sf⟩ := HB.out.ex g
  have hq0 := (HB.out.ex g).q0
  have hq1 := (HB.out.ex g).q1
  have G := Lib.hid (Ex.trans HB.out.g g)
  have HB2 := Lib.hid (HB.out.ex g)
  clear g sf
  go_wp2_with fail
  refine (same_any _ d0 _ (HD.out.ex (G.out.al _)) OK.out).mono ?_
  rintro e w3 ⟨u, rfl, ho, g⟩
  have HO := Lib.hid ho
  obtain ⟨bl, dl, bw, dw, rfl⟩ := OwnD.form ho
  obtain ⟨-, -, -, -, -, -, -, s0, s1, s2, s3, sf⟩ := HB2.out.ex (Ex.trans (Ex.mk_alloc _ _) g)
  have sf0 := sf 0
  have sf1 := sf 1
  have sf2 := sf 2
  have sf3 := sf 3
  have G3 := Lib.hid (Ex.trans (G.out.al _) g)
  have HQ := Lib.hid HB2.out.q
  clear ho g sf
  go_wp2_with fail
  have hq := HB2.out.q
  refine bodyPost_ret (v := .tuple #[.agg #[.slice bl d0.last.length dl, .slice bw d0.wait.length dw, .int .i64 (d0.arm : Int), .bool d0.down], .bool false]) (by simp [results, Try.results68, go_sem, s0, s1, s2, s3]) rfl ⟨_, rfl, OwnD.mono (base := w2.heap.size) ?_ (by omega), ?_⟩
  · repeat (with_reducible (first | refine OwnD.dr ?_ | refine OwnD.al ?_ _ | refine OwnD.st ?_ (by dsimp only; omega) _))
    exact OwnD.mono HO.out (by simp)
  · repeat (with_reducible (first | refine Ex.dr ?_ | refine Ex.al ?_ _ | refine Ex.st ?_ (by dsimp only; omega) _))
    exact G3.out

end Go.Proofs.Ytegfdigljpnhcaa.dsk
