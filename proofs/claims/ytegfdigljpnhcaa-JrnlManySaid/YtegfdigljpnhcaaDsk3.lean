/- Contracts of package disk, third part: lasting. -/
import Derived.Test.YtegfdigljpnhcaaDsk2
import Derived.StillTailTactics
import Derived.Deep.RegionHeld3
namespace Go.Proofs.Ytegfdigljpnhcaa.dsk
set_option maxRecDepth 100000
open Go.RowKit

/-- What the function that it is given does: f says how many bytes last of the k-th. -/
def Comes (W : World) (fid : FuncId) (cap : Array Value) (f : Nat → Nat) : Prop :=
  ∀ (w : World) (k : Nat) (a b : ByteArray), Ex W w → a.size = 32 → b.size = 32 →
    Calls Try.prog fid (#[.int .i64 (k : Int), .string a, .string b] ++ cap) w fun e w' => e = .returned (.string (putAt b a (f k))) ∧ ∃ n, w' = w.drewN n

def RLay (W : World) (d : D) (f : Nat → Nat) (l i : Value) (wr : World) : Prop :=
  ∃ k : Nat, k ≤ d.wait.length ∧ i = .int .i64 k ∧ wr.ownsRow W.heap.size 9 1 l d.last.length (encS.all (layK f d.last d.wait k)) ∧ Ex W wr

set_option maxRecDepth 100000 in
set_option maxHeartbeats 1000000 in
theorem lasting_any (fid : FuncId) (cap : Array Value) (f : Nat → Nat) (hcf : ∀ args w, (callFunc fid args).run Try.prog w = .ok (.enter fid args) w) (v : Value) (d : D) (w : World)
    (hd : IsD w v d) (ok : d.ok) (hf : Comes w fid cap f) (h32 : ∀ k, f k ≤ 32) :
    Calls Try.prog 76 #[v, .func (.func fid) #[] cap] w (catS.Owns w (layK f d.last d.wait d.wait.length)) := by
  obtain ⟨al, cl, aw, cw, rfl, hl, hw⟩ := hd
  have HF := Lib.hid hf
  have H32 := Lib.hid h32
  have OK := Lib.hid ok
  have hn := ok.n
  have hm := ok.many
  clear hf h32 ok
  have HL := Lib.hid hl
  have HW := Lib.hid hw
  clear hl hw
  go_enter Try.func76, Try.ntmps76
  go_wp2_with fail
  refine (catS.concat_one _ _ d.last _ (RowV.made1_at _ _ _ _ (by simp)) (HL.out.ex (Ex.trans (Ex.mk_alloc _ _) (Ex.mk_alloc _ _))) (by omega)).mono ?_
  rintro e w1 ⟨u, rfl, hown, g1⟩
  have G1 := Lib.hid (Ex.trans (Ex.mk_alloc _ _) g1)
  have HO := Lib.hid hown
  clear hown g1
  have HB := Lib.hid (fun (wr : World) (h : Ex (w.alloc (.cells #[.slice al d.last.length cl, .slice aw d.wait.length cw, .int .i64 (d.arm : Int), .bool d.down] 28)) wr) => box4 h)
  have GW := Lib.hid (Ex.mk_alloc w (.cells #[.slice al d.last.length cl, .slice aw d.wait.length cw, .int .i64 (d.arm : Int), .bool d.down] 28))
  have HQ := Lib.hid (show w.heap.size + 1 ≤ (w.alloc (.cells #[.slice al d.last.length cl, .slice aw d.wait.length cw, .int .i64 (d.arm : Int), .bool d.down] 28)).heap.size by simp)
  obtain ⟨c0, c1, c2, c3⟩ := box4 G1.out
  go_wp2_with fail
  clear c0 c1 c2 c3
  generalize hW1 : w.alloc (.cells #[.slice al d.last.length cl, .slice aw d.wait.length cw, .int .i64 (d.arm : Int), .bool d.down] 28) = W1 at *
  clear hW1
  have HO1 := Lib.hid (own_mono HO.out (by simp) : w1.ownsRow W1.heap.size 9 1 u d.last.length (encS.all d.last))
  clear HO
  go_loopw [15] (RLay W1 d f u) (fun i _ => d.wait.length - (intOf i).toNat)
  case atStart => exact ⟨0, by omega, rfl, HO1.out, G1.out⟩
  case round =>
    clear HO1 G1
    obtain ⟨k, hk, rfl, hown, gk⟩ := hrel
    obtain ⟨c0, c1, c2, c3⟩ := HB.out _ gk
    by_cases hlt : k < d.wait.length
    · obtain ⟨b, off, rfl, hbl⟩ := HW.out.addr (by omega)
      have hx : d.wait[k]? = some (d.wait.getD k nop) := by simp [List.getD, hlt]
      have hwr := HW.out.ex (Ex.trans GW.out gk)
      have e0 := hwr.at (j := 0) hx rfl
      have e1 := hwr.at (j := 1) hx rfl
      obtain ⟨hp, hs⟩ := OK.out.wlen _ (getD_mem' (d := nop) hlt)
      have hsz := layK_sizes (f := f) H32.out OK.out.len OK.out.wlen k hk _ (getD_mem' (d := ByteArray.empty) (i := (d.wait.getD k nop).1) (by rw [layK_len]; exact hp))
      simp only [encP, Nat.add_zero] at e0 e1
      rw [← Nat.add_assoc] at e1
      have HS := Lib.hid (show layK f d.last d.wait (k + 1) = stepAt (layK f d.last d.wait k) (d.wait.getD k nop) (f k) from rfl)
      have hll := layK_len f d.last d.wait k
      clear hx hwr
      generalize layK f d.last d.wait k = L at *
      generalize d.wait.getD k nop = p at *
      obtain ⟨pi, pb⟩ := p
      simp only at e0 e1 hp hs hsz HS
      have i0 : (0 : Int) ≤ (k : Int) := by omega
      have i1 : (k : Int) < (d.wait.length : Int) := by omega
      have HH := has_any al (some ⟨b, off, none⟩) d.last.length cl d.wait.length cw (d.arm : Int) d.down (pi : Int)
      rw [show inN d.last.length (pi : Int) = true by simp [inN, hp]] at HH
      have hqs : w.heap.size < wr.heap.size := by have := gk.size; have := HQ.out; omega
      have hbs : b < wr.heap.size := by omega
      have HH1 := Lib.hid HH
      clear HH
      have HL1 := Lib.hid hll
      have HS1 := Lib.hid hs
      have HSZ := Lib.hid hsz
      have HOw := Lib.hid hown
      clear hll hs hsz hown
      go_wp2_with fail
      refine (HH1.out _).mono ?_
      rintro e w2 ⟨rfl, g2⟩
      have gw2 := Ex.trans (Ex.mk_alloc _ _) g2
      have b0 := box_cell g2 0 _ rfl
      have b1 := box_cell g2 1 _ rfl
      have hown2 := own_ex HOw.out gw2
      obtain ⟨g, cap', rfl, hbg, hgl⟩ := hown2.form (by omega)
      have cL : w2.cell? ⟨g, pi, none⟩ = some (.string (L.getD pi ByteArray.empty)) := by
        rw [hown2.cellAt pi (by omega), encS_get _ _ (by rw [HL1.out]; exact hp)]
      have fL := hown2.frozenAt pi
      obtain ⟨hst, hgb⟩ := hown2.stored pi (.string (putAt pb (L.getD pi ByteArray.empty) (f k)))
      rw [← encS_set] at hst
      have HST := Lib.hid (show (w2.setCell ⟨g, pi, none⟩ (.string (putAt pb (L.getD pi ByteArray.empty) (f k)))).ownsRow W1.heap.size 9 1 (.slice (some ⟨g, 0, none⟩) d.last.length cap') d.last.length (encS.all (layK f d.last d.wait (k + 1))) by rw [HS.out]; exact hst)
      have GST := Lib.hid (Below.grown (Ex.trans gk gw2) hgb (Ex.trans gk gw2).size (fun b h => by cases h; exact hbg))
      have HC := Lib.hid (HF.out w2.drew k (L.getD pi ByteArray.empty) pb (Below.drew (Ex.trans GW.out (Ex.trans gk gw2))) HSZ.out HS1.out)
      clear hst hgb hown2 HOw HS HSZ HS1 g2 gw2 c0 c1 c2 c3 e0 e1 HH1 HB HW
      generalize L.getD pi ByteArray.empty = ahead at *
      have j0 : (0 : Int) ≤ (pi : Int) := by omega
      have j1 : (pi : Int) < (d.last.length : Int) := by omega
      go_wp2_with fail
      go_region_with (with_reducible refine Calls.mono HC.out ?_; rintro e w' ⟨rfl, n, rfl⟩)
      all_goals
        go_wp2_with fail
        go_roundw
        case rel => exact ⟨k + 1, by omega, by go_num, own_ex HST.out (Ex.drewN _ _), Ex.trans GST.out (Ex.drewN _ _)⟩
        case measure => simp [intOf]; omega
    · have hke : k = d.wait.length := by omega
      have hown' : wr.ownsRow W1.heap.size 9 1 u (layK f d.last d.wait d.wait.length).length (encS.all (layK f d.last d.wait d.wait.length)) := by rw [layK_len, ← hke]; exact hown
      have HE := Lib.hid hown'
      have hge : decide (k < d.wait.length) = false := decide_eq_false hlt
      clear hown hown' hke hlt
      have hqs : w.heap.size ≤ W1.heap.size := by have := HQ.out; omega
      go_wp2_with fail
      go_ret
      exact ⟨_, rfl, own_mono HE.out hqs, Ex.trans GW.out gk⟩

end Go.Proofs.Ytegfdigljpnhcaa.dsk
