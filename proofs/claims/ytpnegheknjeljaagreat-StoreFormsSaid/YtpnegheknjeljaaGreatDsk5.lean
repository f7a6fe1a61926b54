/- Contracts of package disk, fifth part: same, waiting, counted. -/
import Derived.Test.YtpnegheknjeljaaGreatDsk2
import Derived.Deep.RegionHeld3
namespace Go.Proofs.YtpnegheknjeljaaGreat.dsk
set_option maxRecDepth 100000
open Go.RowKit

def OwnD (base:Nat) (w:World) (v:Value) (d:D):Prop :=
 ∃ vl vw,v=.agg #[vl,vw,.int .i64 (d.arm:Int),.bool d.down]/\w.ownsRow base 9 1 vl d.last.length (encS.all d.last)/\w.ownsRow base 77 2 vw d.wait.length (encP.all d.wait)

set_option maxRecDepth 100000 in
set_option maxHeartbeats 1000000 in
theorem same_any (v : Value) (d : D) (w : World) (hd : IsD w v d) (ok : d.ok) :
    Calls Tryz.prog 129 #[v] w fun e w' => ∃ u, e = .returned u /\ OwnD w.heap.size w' u d /\ Ex w w' := by
  obtain ⟨al, cl, aw, cw, rfl, hl, hw⟩ := hd
  have hn := ok.n
  have hm := ok.many
  have HL := Lib.hid hl
  have HW := Lib.hid hw
  clear hl hw ok
  go_enter Tryz.func129, Tryz.ntmps129
  go_wp2_with fail
  generalize hW : (w.alloc _).alloc _ = W1
  have HB := Lib.hid (boxes hW)
  clear hW
  have hq0 := HB.out.q0
  have hq1 := HB.out.q1
  obtain ⟨-, hq, c0, c1, c2, c3, -, -, -, -, -, -⟩ := HB.out
  go_region_with (first
    | ((go_at_call 61)
       refine (catS.concat_at _ _ d.last _ (by simp) (HL.out.ex (Ex.trans HB.out.g (by repeat (first | exact Ex.refl _ | refine Ex.dr ?_ | refine Ex.al ?_ _)))) (by omega)).mono ?_
       rintro e w2 ⟨u1, rfl, o1, g2⟩
       obtain ⟨ua, uc, rfl, ux, uy⟩ := (RowE.of_own (E := encS) o1).1.len
       clear ux uy
       have G2 : Ex W1 w2 := Ex.trans (by repeat (first | exact Ex.refl _ | refine Ex.dr ?_ | refine Ex.al ?_ _)) g2
       have hq2 := (HB.out.ex G2).q0
       have hq22 := (HB.out.ex G2).q1
       have d1 := (HB.out.ex G2).c1)
    | ((go_at_call 62)
       refine (catP.concat_at _ _ d.wait _ (by first | (simp; done) | exact g2.on (by simp)) (HW.out.ex (Ex.trans (Ex.trans HB.out.g G2) (by repeat (first | exact Ex.refl _ | refine Ex.dr ?_ | refine Ex.al ?_ _)))) (by omega)).mono ?_
       rintro e w3 ⟨u2, rfl, o2, g3⟩
       obtain ⟨va, vc, rfl, ux, uy⟩ := (RowE.of_own (E := encP) o2).1.len
       clear ux uy
       have G3 : Ex w2 w3 := Ex.trans (by repeat (first | exact Ex.refl _ | refine Ex.dr ?_ | refine Ex.al ?_ _)) g3
       have hq3 := (HB.out.ex (Ex.trans G2 G3)).q0
       have hq33 := (HB.out.ex (Ex.trans G2 G3)).q1
       obtain ⟨-, -, k0, k1, k2, k3, kf, s0, s1, s2, s3, sf⟩ := HB.out.ex (Ex.trans G2 G3)
       have kf0 := kf 0
       have kf1 := kf 1
       have sf0 := sf 0
       have sf1 := sf 1
       have sf2 := sf 2
       have sf3 := sf 3
       have O1 : Hid (w3.ownsRow (w.heap.size + 2) 9 1 _ _ _) := Lib.hid (Zb8 (Zod o1 G3) (by simp; omega))
       have O2 : Hid (w3.ownsRow (w.heap.size + 2) 77 2 _ _ _) := Lib.hid (Zb8 o2 (by have := (HB.out.ex G2).q; simp; omega))
       have GW := Lib.hid (Ex.trans HB.out.g (Ex.trans G2 G3))
       clear o1 o2 kf sf))
  all_goals
    go_wp2_with fail
    refine bodyPost_ret (v := .agg #[.slice ua d.last.length uc, .slice va d.wait.length vc, .int .i64 (d.arm : Int), .bool d.down]) (by simp [results, Tryz.results129, go_sem, s0, s1, s2, s3]) rfl ⟨_, rfl, ⟨_, _, rfl, Zb8 (base := w.heap.size + 2) ?_ (by omega), Zb8 (base := w.heap.size + 2) ?_ (by omega)⟩, ?_⟩
    · repeat (first | (with_reducible exact O1.out) | refine ownsRow_setCell_below ?_ (by simp) _)
    · repeat (first | (with_reducible exact O2.out) | refine ownsRow_setCell_below ?_ (by simp) _)
    · repeat (first | (with_reducible exact GW.out) | refine Ex.st ?_ (by simp) _)

end Go.Proofs.YtpnegheknjeljaaGreat.dsk
