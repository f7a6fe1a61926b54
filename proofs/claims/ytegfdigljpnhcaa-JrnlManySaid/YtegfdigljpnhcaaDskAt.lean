/- The contracts of disk where the answer is known. -/
import Derived.Test.YtegfdigljpnhcaaDskD
namespace Go.Proofs.Ytegfdigljpnhcaa.dsk
set_option maxRecDepth 100000
open Go.RowKit
theorem read_at (v : Value) (d : D) (i : Int) (w : World) (r : ByteArray × Bool) (hr : readD d i = r) (hd : IsD w v d) (ok : d.ok) : Calls Try.prog 84 #[v, .int .i64 i] w (TellsS w r) := hr ▸ read_any v d i w hd ok
theorem flush_at (v : Value) (d d' : D) (b : Bool) (w : World) (hr : flush2 d = (d', b)) (hd : IsD w v d) (ok : d.ok) : Calls Try.prog 54 #[v] w (TellsDB w d' b) := by
  have := flush_any v d w hd ok
  rw [hr] at this
  exact this
theorem write_at (v : Value) (d d' : D) (i : Int) (b : ByteArray) (ok' : Bool) (w : World) (hr : writeD d i b = (d', ok')) (hd : IsD w v d) (ok : d.ok) : Calls Try.prog 53 #[v, .int .i64 i, .string b] w (TellsDB w d' ok') := by
  have := write_any v d i b w hd ok
  rw [hr] at this
  exact this
/-- p points to a variable that holds d. -/
def Holds (w : World) (p : Value) (d : D) : Prop :=
  ∃ b al cl aw cw, p = .pointer (some ⟨b, 0, none⟩) ∧ BoxD w b al d.last.length cl aw d.wait.length cw d.arm d.down ∧ IsD w (.agg #[.slice al d.last.length cl, .slice aw d.wait.length cw, .int .i64 (d.arm : Int), .bool d.down]) d
theorem Holds.ex {w w' : World} {p : Value} {d : D} (h : Holds w p d) (g : Ex w w') : Holds w' p d := by
  obtain ⟨b, al, cl, aw, cw, e, h1, h2⟩ := h
  exact ⟨b, al, cl, aw, cw, e, h1.ex g, h2.ex g⟩

end Go.Proofs.Ytegfdigljpnhcaa.dsk
