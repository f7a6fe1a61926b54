/- Contracts of package disk, tenth part: Read, Write, Flush, Crash. -/
import Derived.Test.YtegfdigljpnhcaaDsk9
namespace Go.Proofs.Ytegfdigljpnhcaa.dsk
set_option maxRecDepth 100000
open Go.RowKit

/-- A box of four cells at q reads as the disk value v. -/
structure BoxD (w : World) (q : Nat) (al : Option Addr) (n cl : Nat) (aw : Option Addr) (m cw : Nat) (arm : Int) (down : Bool) : Prop where
  c0 : w.cell? ⟨q, 0, none⟩ = some (.slice al n cl)
  c1 : w.cell? ⟨q, 1, none⟩ = some (.slice aw m cw)
  c2 : w.cell? ⟨q, 2, none⟩ = some (.int .i64 arm)
  c3 : w.cell? ⟨q, 3, none⟩ = some (.bool down)
theorem BoxD.ex {w w' : World} {q : Nat} {al : Option Addr} {n cl : Nat} {aw : Option Addr} {m cw : Nat} {arm : Int} {down : Bool} (h : BoxD w q al n cl aw m cw arm down) (g : Ex w w') : BoxD w' q al n cl aw m cw arm down :=
  ⟨g.on h.c0, g.on h.c1, g.on h.c2, g.on h.c3⟩
theorem BoxD.lt {w : World} {q : Nat} {al : Option Addr} {n cl : Nat} {aw : Option Addr} {m cw : Nat} {arm : Int} {down : Bool} (h : BoxD w q al n cl aw m cw arm down) : q < w.heap.size := World.block_lt_of_cell? w _ h.c0

theorem read1_yes (q p : Nat) (al aw : Option Addr) (cl cw : Nat) (d : D) (i : Nat) (w : World) (hb : BoxD w q al d.last.length cl aw d.wait.length cw d.arm d.down) (hp : w.cell? ⟨p, 0, none⟩ = some (.int .i64 (i : Int)))
    (hd : IsD w (.agg #[.slice al d.last.length cl, .slice aw d.wait.length cw, .int .i64 (d.arm : Int), .bool d.down]) d) (ok : d.ok) (hdn : d.down = false) (hi : i < d.last.length) :
    Calls Try.prog 92 #[.pointer (some ⟨q, 0, none⟩), .pointer (some ⟨p, 0, none⟩)] w (TellsV w (.string (latest d i))) := by
  have HD := Lib.hid hd
  have OK := Lib.hid ok
  have HB := Lib.hid hb
  have HI := Lib.hid hi
  have HH := fun w => mustHave_yes al aw d.last.length cl d.wait.length cw d.arm false (i : Int) w (by simp [inN, hi])
  have HH := Lib.hid HH
  rw [hdn] at HD HB
  obtain ⟨c0, c1, c2, c3⟩ := HB.out
  clear hd ok hb hdn hi
  go_enter Try.func92, Try.ntmps92
  go_wp2_with fail
  refine (mustLive_yes _ _ _ _ _ _ _ _).mono ?_
  rintro e w1 ⟨rfl, g1⟩
  obtain ⟨c0, c1, c2, c3⟩ := HB.out.ex g1
  have hp1 := g1.on hp
  go_wp2_with fail
  refine (HH.out _).mono ?_
  rintro e w2 ⟨rfl, g2⟩
  obtain ⟨c0, c1, c2, c3⟩ := HB.out.ex (Ex.trans g1 g2)
  have hp2 := g2.on hp1
  go_wp2_with fail
  refine (latest_any _ d i _ (HD.out.ex (Ex.trans g1 g2)) OK.out HI.out).mono ?_
  rintro e w3 ⟨rfl, g3⟩
  go_wp2_with fail
  go_ret
  exact ⟨rfl, Ex.trans (Ex.trans g1 g2) g3⟩

theorem read1_no (q p : Nat) (al aw : Option Addr) (cl cw : Nat) (d : D) (i : Int) (w : World) (hb : BoxD w q al d.last.length cl aw d.wait.length cw d.arm d.down) (hp : w.cell? ⟨p, 0, none⟩ = some (.int .i64 i)) (hn : ¬ hasB d i = true) :
    Calls Try.prog 92 #[.pointer (some ⟨q, 0, none⟩), .pointer (some ⟨p, 0, none⟩)] w (BoomE w) := by
  by_cases hdn : d.down = true
  · have HB := Lib.hid hb
    rw [hdn] at HB
    obtain ⟨c0, c1, c2, c3⟩ := HB.out
    clear hb hdn hn
    go_enter Try.func92, Try.ntmps92
    go_wp2_with fail
    refine (mustLive_no _ _ _ _ _ _ _ _).mono ?_
    rintro e w1 ⟨u, v, rfl, g1⟩
    exact ⟨rfl, _, _, rfl, g1⟩
  · have hdn : d.down = false := by simpa using hdn
    have hin : inN d.last.length i = false := by
      simp only [inN, decide_eq_false_iff_not]
      rcases hasB_no hn with h | h | h
      · rw [hdn] at h; cases h
      · omega
      · omega
    have HH := Lib.hid (fun w => mustHave_no al aw d.last.length cl d.wait.length cw d.arm false i w hin)
    have HB := Lib.hid hb
    rw [hdn] at HB
    obtain ⟨c0, c1, c2, c3⟩ := HB.out
    clear hb hdn hn hin
    go_enter Try.func92, Try.ntmps92
    go_wp2_with fail
    refine (mustLive_yes _ _ _ _ _ _ _ _).mono ?_
    rintro e w1 ⟨rfl, g1⟩
    obtain ⟨c0, c1, c2, c3⟩ := HB.out.ex g1
    have hp1 := g1.on hp
    go_wp2_with fail
    refine (HH.out _).mono ?_
    rintro e w2 ⟨u, v, rfl, g2⟩
    exact ⟨rfl, _, _, rfl, Ex.trans g1 g2⟩

theorem call33 (cap : Array Value) (w : World) : (callFunc 92 cap).run Try.prog w = .ok (.enter 92 cap) w := by simp [go_sem]
theorem call37 (cap : Array Value) (w : World) : (callFunc 69 cap).run Try.prog w = .ok (.enter 69 cap) w := by simp [go_sem]
theorem call24 (cap : Array Value) (w : World) : (callFunc 75 cap).run Try.prog w = .ok (.enter 75 cap) w := by simp [go_sem]
theorem call27 (cap : Array Value) (w : World) : (callFunc 77 cap).run Try.prog w = .ok (.enter 77 cap) w := by simp [go_sem]

def RRead (w : World) (d : D) (i : Int) (v : Value) (b : Bool) (w' : World) : Prop := v = .string (readD d i).1 ∧ b = (readD d i).2 ∧ Ex w w'
def TellsS (w : World) (r : ByteArray × Bool) (e : Ending) (w' : World) : Prop := e = .returned (.tuple #[.string r.1, .bool r.2]) ∧ Ex w w'

set_option maxHeartbeats 1000000 in
theorem read_any (v : Value) (d : D) (i : Int) (w : World) (hd : IsD w v d) (ok : d.ok) : Calls Try.prog 84 #[v, .int .i64 i] w (TellsS w (readD d i)) := by
  have OK := Lib.hid ok
  have HD := Lib.hid hd
  obtain ⟨al, cl, aw, cw, rfl, hl, hw⟩ := hd
  clear hl hw ok
  go_enter Try.func84, Try.ntmps84
  go_wp2_with fail
  generalize hW : (w.alloc _).alloc _ = W1
  have hb : BoxD W1 w.heap.size al d.last.length cl aw d.wait.length cw d.arm d.down := by
    subst hW
    obtain ⟨c0, c1, c2, c3⟩ := box4 (Ex.mk_alloc (w.alloc (.cells #[.slice al d.last.length cl, .slice aw d.wait.length cw, .int .i64 (d.arm : Int), .bool d.down] 28)) (.cells #[.int .i64 i] 3))
    exact ⟨c0, c1, c2, c3⟩
  have hp : W1.cell? ⟨w.heap.size + 1, 0, none⟩ = some (.int .i64 i) := by
    subst hW
    simp
  have hg : Ex w W1 := by subst hW; exact (Ex.mk_alloc _ _).al _
  clear hW
  have hR : Calls Try.prog 92 #[.pointer (some ⟨w.heap.size, 0, none⟩), .pointer (some ⟨w.heap.size + 1, 0, none⟩)] W1 (Inner (RRead W1 d i) (.string ⟨#[]⟩)) := by
    by_cases hh : hasB d i = true
    · obtain ⟨h1, h2, h3⟩ := hasB_yes hh
      obtain ⟨j, rfl⟩ : ∃ j : Nat, i = (j : Int) := ⟨i.toNat, by omega⟩
      refine (read1_yes _ _ al aw cl cw d j W1 hb hp (HD.out.ex hg) OK.out h1 (by omega)).mono ?_
      rintro e w' ⟨rfl, g⟩
      refine ⟨?_, ?_, g⟩ <;> simp [readD, hh]
    · refine (read1_no _ _ al aw cl cw d i W1 hb hp hh).mono ?_
      rintro e w' ⟨u, v, rfl, g⟩
      refine ⟨?_, ?_, g⟩ <;> simp [readD, hh] <;> rfl
  have HR := Lib.hid (orNo_str 92 _ W1 _ (call33 _) hR)
  clear hR hb hp
  refine HR.out.mono ?_
  rintro e w' ⟨v, b, rfl, rfl, rfl, g⟩
  go_wp2_with fail
  go_ret2
  exact ⟨rfl, Ex.trans hg g⟩

end Go.Proofs.Ytegfdigljpnhcaa.dsk
