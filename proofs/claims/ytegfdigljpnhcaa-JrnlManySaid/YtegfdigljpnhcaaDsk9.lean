/- Contracts of package disk, ninth part: guarded calls that write a variable that they share (block q); Read, Write, Flush, Crash. -/
import Derived.Test.YtegfdigljpnhcaaDsk8
import Derived.Test.YtegfdigljpnhcaaDsk3
namespace Go.Proofs.Ytegfdigljpnhcaa.dsk
set_option maxRecDepth 100000
open Go.RowKit

theorem gb_below {a b c : World} {row : Option Nat} (h : a.grownBy b row) (k : Below a.heap.size b c) : a.grownBy c row :=
  ⟨k.os.trans h.os, k.tape.trans h.tape, k.output.trans h.output, Nat.le_trans h.size k.size, fun i hi hne => (k.block i hi).trans (h.block i hi hne)⟩
theorem gb_st {a b : World} {row : Option Nat} (h : a.grownBy b row) {p : Addr} (hp : a.heap.size ≤ p.block) (u : Value) : a.grownBy (b.setCell p u) row := gb_below h ((Below.refl _ _).setCell hp u)
theorem gb_al {a b : World} {row : Option Nat} (h : a.grownBy b row) (o : Obj) : a.grownBy (b.alloc o) row := gb_below h ((Below.refl _ _).alloc h.size o)
theorem gb_dr {a b : World} {row : Option Nat} (h : a.grownBy b row) : a.grownBy b.drew row := gb_below h ((Below.refl _ _).drew)
theorem gb_ex {a b : World} (h : Ex a b) (row : Option Nat) : a.grownBy b row := ⟨h.os, h.tape, h.output, h.size, fun k hk _ => h.block k hk⟩
theorem gb_pre {a b c : World} {row : Option Nat} (h : Ex a b) (k : b.grownBy c row) : a.grownBy c row :=
  ⟨k.os.trans h.os, k.tape.trans h.tape, k.output.trans h.output, Nat.le_trans h.size k.size, fun i hi hne => (k.block i (Nat.lt_of_lt_of_le hi h.size) hne).trans (h.block i hi)⟩
theorem gb_cell {a b : World} {q b0 i : Nat} {u : Value} (h : a.grownBy b (some q)) (hne : b0 ≠ q) (hc : a.cell? ⟨b0, i, none⟩ = some u) : b.cell? ⟨b0, i, none⟩ = some u :=
  h.cell hc (fun e => hne (by cases e; rfl))
theorem gb_fz {a b : World} {q b0 i : Nat} (h : a.grownBy b (some q)) (hne : b0 ≠ q) (hl : b0 < a.heap.size) (hc : a.frozen? ⟨b0, i, none⟩ = false) : b.frozen? ⟨b0, i, none⟩ = false :=
  (h.frozen_far _ hl (fun e => hne (by cases e; rfl))).trans hc

/-- It tells a disk of the call's own; of what was there block q alone may have turned. -/
def TellsDq (q : Nat) (w : World) (d : D) (e : Ending) (w' : World) : Prop := ∃ v, e = .returned v ∧ OwnD w.heap.size w' v d ∧ w.grownBy w' (some q)
def TellsDBq (q : Nat) (w : World) (d : D) (b : Bool) (e : Ending) (w' : World) : Prop := ∃ v, e = .returned (.tuple #[v, .bool b]) ∧ OwnD w.heap.size w' v d ∧ w.grownBy w' (some q)

theorem orNo_disk_okq (q : Nat) (fid : FuncId) (cap : Array Value) (w : World) (d : D) (hq : q < w.heap.size) (hc : ∀ w, (callFunc fid cap).run Try.prog w = .ok (.enter fid cap) w)
    (h : ∀ w1, Ex w w1 → Calls Try.prog fid cap w1 (TellsDq q w1 d)) :
    Calls Try.prog 86 #[.func (.func fid) #[] cap] w (TellsDBq q w d true) := by
  have H := Lib.hid h
  clear h
  go_enter_defers Try.func86, Try.ntmps86
  go_wp2_with fail
  refine (H.out _ (Ex.mk_alloc _ _)).mono ?_
  rintro e w' ⟨v, rfl, ho, g⟩
  have G := Lib.hid (gb_pre (Ex.mk_alloc _ _) g)
  have HO := Lib.hid ho
  obtain ⟨al, cl, aw, cw, rfl⟩ := ho.form
  obtain ⟨a0, a1, a2, a3⟩ := box4 (Ex.refl (w.alloc (.cells #[.slice none 0 0, .slice none 0 0, .int .i64 0, .bool false] 28)))
  have hne : w.heap.size ≠ q := by omega
  have c0 := gb_cell g hne a0
  have c1 := gb_cell g hne a1
  have c2 := gb_cell g hne a2
  have c3 := gb_cell g hne a3
  have f0 := gb_fz g hne (by simp) (box_frozen (Ex.refl _) 0)
  have f1 := gb_fz g hne (by simp) (box_frozen (Ex.refl _) 1)
  have f2 := gb_fz g hne (by simp) (box_frozen (Ex.refl _) 2)
  have f3 := gb_fz g hne (by simp) (box_frozen (Ex.refl _) 3)
  clear ho g a0 a1 a2 a3 hne
  go_wp2_with fail
  refine leaves_cons (f := 94) (args := #[]) (by simp) (by simp [go_sem]) ?_
  refine (rec_idle_disk _).mono ?_
  rintro e u' w'' ⟨rfl, rfl, rfl⟩
  simp [Leaves, settle, results, Try.results86, go_sem, c0, c1, c2, c3]
  refine ⟨_, rfl, OwnD.mono (base := (w.alloc (.cells #[.slice none 0 0, .slice none 0 0, .int .i64 0, .bool false] 28)).heap.size) ?_ (by simp), ?_⟩
  · repeat (refine OwnD.st ?_ (by simp) _)
    exact HO.out
  · repeat (refine gb_st ?_ (by simp) _)
    exact G.out

set_option maxRecDepth 100000 in
set_option maxHeartbeats 1000000 in
theorem orAsItWas_okq (q : Nat) (fid : FuncId) (cap : Array Value) (v : Value) (d0 d : D) (w : World) (hq : q < w.heap.size) (hd : IsD w v d0) (hc : ∀ w, (callFunc fid cap).run Try.prog w = .ok (.enter fid cap) w)
    (h : ∀ w1, Ex w w1 → Calls Try.prog fid cap w1 (TellsDq q w1 d)) :
    Calls Try.prog 68 #[v, .func (.func fid) #[] cap] w (TellsDBq q w d (!d.down)) := by
  have H := Lib.hid h
  have HC := Lib.hid hc
  clear h hc
  obtain ⟨al, cl, aw, cw, rfl, hl, hw⟩ := hd
  clear hl hw
  go_enter Try.func68, Try.ntmps68
  go_wp2_with fail
  generalize hW : (w.alloc _).alloc _ = W1
  have HB := Lib.hid (boxes hW)
  clear hW
  refine (orNo_disk_okq q fid cap W1 d (Nat.lt_of_lt_of_le hq HB.out.g.size) HC.out (fun w1 hw1 => H.out w1 (Ex.trans HB.out.g hw1))).mono ?_
  rintro e w2 ⟨u, rfl, ho, g⟩
  have HO := Lib.hid ho
  obtain ⟨bl, dl, bw, dw, rfl⟩ := ho.form
  have hne : w.heap.size + 1 ≠ q := by omega
  have s0 := gb_cell g hne HB.out.r0
  have s1 := gb_cell g hne HB.out.r1
  have s2 := gb_cell g hne HB.out.r2
  have s3 := gb_cell g hne HB.out.r3
  have sf0 := gb_fz g hne HB.out.q1 (HB.out.fr 0)
  have sf1 := gb_fz g hne HB.out.q1 (HB.out.fr 1)
  have sf2 := gb_fz g hne HB.out.q1 (HB.out.fr 2)
  have sf3 := gb_fz g hne HB.out.q1 (HB.out.fr 3)
  have hq1 : w.heap.size + 1 < w2.heap.size := Nat.lt_of_lt_of_le HB.out.q1 g.size
  have G := Lib.hid (gb_pre HB.out.g g)
  have HQ := Lib.hid HB.out.q
  clear ho g hne
  go_wp2_with fail
  go_region
  all_goals
    go_wp2_with fail
    have hq := HB.out.q
    refine bodyPost_ret (v := .tuple #[.agg #[.slice bl d.last.length dl, .slice bw d.wait.length dw, .int .i64 (d.arm : Int), .bool d.down], .bool (!d.down)]) (by simp [results, Try.results68, go_sem, s0, s1, s2, s3, hq1]) rfl ⟨_, rfl, OwnD.mono (base := W1.heap.size) ?_ (by omega), ?_⟩
    · repeat with_reducible (first | refine OwnD.dr ?_ | refine OwnD.al ?_ _ | refine OwnD.st ?_ (by dsimp only; omega) _)
      exact HO.out
    · repeat with_reducible (first | refine gb_dr ?_ | refine gb_al ?_ _ | refine gb_st ?_ (by dsimp only; omega) _)
      exact G.out

end Go.Proofs.Ytegfdigljpnhcaa.dsk
