/- Contracts of package disk: its small functions. -/
import Derived.Test.YtegfdigljpnhcaaChecked
import Derived.Test.YtegfdigljpnhcaaCatS
import Derived.Test.YtegfdigljpnhcaaCatP
import Derived.OpenShut
import Derived.Defers
import Derived.Recover
import Derived.WalkLawsBesides
import Derived.KernelRfl
import Derived.Laws.IdiomStrings
import Derived.Outline
namespace Go.Proofs.Ytegfdigljpnhcaa.dsk
set_option maxRecDepth 100000
open Go.RowKit

/-- It panics with an error of its own. -/
def BoomE (w : World) (e : Ending) (w' : World) : Prop := ∃ u v, e = .panicked [{ v := .iface u v, recovered := false }] ∧ Ex w w'
/-- It tells v; nothing that was there has turned. -/
def TellsV (w : World) (v : Value) (e : Ending) (w' : World) : Prop := e = .returned v ∧ Ex w w'

section
variable (al aw : Option Addr) (n cl m cw : Nat) (arm : Int) (down : Bool)

theorem mustLive_yes (w : World) : Calls Try.prog 70 #[.agg #[.slice al n cl, .slice aw m cw, .int .i64 arm, .bool false]] w (TellsV w (.tuple #[])) := by
  go_enter Try.func70, Try.ntmps70
  go_wp2_with fail
  go_end0
  exact ⟨rfl, (Below.refl _ _).alloc (Nat.le_refl _) _⟩
theorem mustLive_no (w : World) : Calls Try.prog 70 #[.agg #[.slice al n cl, .slice aw m cw, .int .i64 arm, .bool true]] w (BoomE w) := by
  go_enter Try.func70, Try.ntmps70
  go_wp2_with fail
  exact ⟨rfl, _, _, rfl, (Below.refl _ _).alloc (Nat.le_refl _) _⟩

/-- There is a sector i of n. -/
def inN (n : Nat) (i : Int) : Bool := decide (0 ≤ i ∧ i < (n : Int))
theorem inN_yes {n : Nat} {i : Int} (h : inN n i = true) : 0 ≤ i ∧ i < (n : Int) := by simpa [inN] using h

theorem has_any (i : Int) (w : World) : Calls Try.prog 88 #[.agg #[.slice al n cl, .slice aw m cw, .int .i64 arm, .bool down], .int .i64 i] w (TellsV w (.bool (inN n i))) := by
  by_cases h0 : 0 ≤ i
  · have e : inN n i = decide (i < (n : Int)) := by simp [inN, h0]
    rw [e]
    go_enter Try.func88, Try.ntmps88
    go_wp2_with fail
    go_ret
    exact ⟨rfl, (Below.refl _ _).alloc (Nat.le_refl _) _⟩
  · have e : inN n i = false := by simp [inN, h0]
    rw [e]
    have hd : decide (0 ≤ i) = false := by simpa using h0
    clear e
    go_enter Try.func88, Try.ntmps88
    go_wp2_with fail
    go_ret
    exact ⟨rfl, (Below.refl _ _).alloc (Nat.le_refl _) _⟩

theorem mustHave_yes (i : Int) (w : World) (h : inN n i = true) : Calls Try.prog 71 #[.agg #[.slice al n cl, .slice aw m cw, .int .i64 arm, .bool down], .int .i64 i] w (TellsV w (.tuple #[])) := by
  have H := has_any al aw n cl m cw arm down i
  rw [h] at H
  have HH := Lib.hid H
  clear H h
  go_enter Try.func71, Try.ntmps71
  go_wp2_with fail
  refine (HH.out _).mono ?_
  rintro e w' ⟨rfl, g⟩
  go_wp2_with fail
  go_end0
  exact ⟨rfl, Ex.trans ((Below.refl _ _).alloc (Nat.le_refl _) _) g⟩
theorem mustHave_no (i : Int) (w : World) (h : inN n i = false) : Calls Try.prog 71 #[.agg #[.slice al n cl, .slice aw m cw, .int .i64 arm, .bool down], .int .i64 i] w (BoomE w) := by
  have H := has_any al aw n cl m cw arm down i
  rw [h] at H
  have HH := Lib.hid H
  clear H h
  go_enter Try.func71, Try.ntmps71
  go_wp2_with fail
  refine (HH.out _).mono ?_
  rintro e w' ⟨rfl, g⟩
  go_wp2_with fail
  exact ⟨rfl, _, _, rfl, Ex.trans ((Below.refl _ _).alloc (Nat.le_refl _) _) g⟩
end

theorem mustFill_yes (b : ByteArray) (w : World) (h : b.size = 32) : Calls Try.prog 72 #[.string b] w fun e w' => e = .returned (.tuple #[]) ∧ w = w' := by
  have hd : ((b.size : Int) != 32) = false := by rw [h]; rfl
  clear h
  go_enter Try.func72, Try.ntmps72
  go_wp2_with fail
  go_end0
  exact ⟨rfl, rfl⟩
theorem mustFill_no (b : ByteArray) (w : World) (h : ¬ b.size = 32) : Calls Try.prog 72 #[.string b] w (BoomE w) := by
  have hd : ((b.size : Int) != 32) = true := by simp; omega
  clear h
  go_enter Try.func72, Try.ntmps72
  go_wp2_with fail
  exact ⟨rfl, _, _, rfl, Ex.refl _⟩

theorem whole_any (k : Int) (a b : ByteArray) (w : World) : Calls Try.prog 77 #[.int .i64 k, .string a, .string b] w fun e w' => e = .returned (.string b) ∧ w = w' := by
  go_enter Try.func77, Try.ntmps77
  go_wp2_with fail
  go_ret
  exact ⟨rfl, rfl⟩

end Go.Proofs.Ytegfdigljpnhcaa.dsk
