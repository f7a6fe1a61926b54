/- Contracts of package disk, second part: what lasts of what waited. -/
import Derived.Test.YtegfdigljpnhcaaDsk
import Derived.Deep.QuietTactic
import Derived.BigQuiet
import Derived.Handy
namespace Go.Proofs.Ytegfdigljpnhcaa.dsk
set_option maxRecDepth 100000
open Go.RowKit

theorem ext_none (a : ByteArray) (n : Nat) : a.extract n n = ByteArray.empty := by
  apply ByteArray.ext
  simp
theorem ext_all (a : ByteArray) (ha : a.size = 32) : a.extract 0 32 = a := by
  apply ByteArray.ext
  rw [← ha]
  simp
theorem putAt_full (a b : ByteArray) (hb : b.size = 32) : putAt b a 32 = b := by
  unfold putAt
  rw [ext_none, ext_all b hb, ByteArray.append_empty]

end Go.Proofs.Ytegfdigljpnhcaa.dsk
