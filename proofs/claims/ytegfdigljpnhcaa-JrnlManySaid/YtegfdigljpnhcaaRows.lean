/-
  No cell of these rows narrows 'for every input' (looked for: loops, veiled, ifaces, maps, wideKeys, modest, calm, conditions, laid).
  DERIVED. THE GIVEN ROWS OF THIS SEAT. 7 by the template 'for every input the law returns true; each argument reads behind the call as it read before'; 0 by the template 'total and deterministic' (their statements: YtegfdigljpnhcaaTotals.lean).
  GIVEN WITH THE SEED: the statements are not yours to turn. If you find one false, say at which input.
  Laid BY PROGRAM, IN A SANDBOX (cutbox-rows.mjs): the forced cells as the released guide's own fill.sh prints them over the translation 85383c83d9e6b675… (all of the seat's roots in one cut). By AI agents, Wed Nov 11 2026. No macro, syntax, notation, axiom, sorry.
-/
import Derived.Test.YtegfdigljpnhcaaChecked
import GoSem.Claim
import GoSem.ClaimJoined
import GoSem.ClaimMapViews
import Derived.JoinedTies
import Derived.KernelRfl
namespace Go.Proofs.Ytegfdigljpnhcaa
/- THE CELL 'sum', in the pinned program and in every row, IS THE sha256 OF THE DUMP (.gsa) THAT YtegfdigljpnhcaaProg.lean LOADS. Nothing in Lean hashes anything: it is a label: what it is worth is what the hold of that sum in a sandbox is worth. -/
noncomputable def Try.pinned : Pinned := { name := "ytegfdigljpnhcaa", sum := "85383c83d9e6b67540bfcba26a0d3c3707a575b49d4b2ba3f51a293d2485af86", checked := Try.checked }
namespace Rows
def none {H : Type} : Left H := { results := [], args := [] }

/-- 'tenancylaw6.JrnlWhole': WHATEVER THE INPUT: true; the input reads as it did. -/
def jrnlWholeSpec : ChangeSpec := { name := "jrnlWhole", fn := fun _ => fun
  | [d1, d2, d3, d4, d5, d6] => { results := [.lit (.bool true)], args := [d1, d2, d3, d4, d5, d6] }
  | _ => none }
def jrnlWholeRow : OpenClaim := { program := "ytegfdigljpnhcaa", sum := "85383c83d9e6b67540bfcba26a0d3c3707a575b49d4b2ba3f51a293d2485af86", func := "tenancy/tenancylaw6.JrnlWhole", spec := "jrnlWhole", inPlace := ["internal/abi.NoEscape", "internal/bytealg.MakeNoZero"], unfollowed := true, recurses := true, apart := false }
def JrnlWholeSaid : Prop := jrnlWholeRow.holds Try.pinned (OpenSpec.ofChange jrnlWholeSpec)

/-- ITS FALSE NEIGHBOUR: 'it returns false'. Refute it at one input. -/
def jrnlWholeWrong : ChangeSpec := { name := "jrnlWhole", fn := fun _ => fun
  | [d1, d2, d3, d4, d5, d6] => { results := [.lit (.bool false)], args := [d1, d2, d3, d4, d5, d6] }
  | _ => none }
def JrnlWholeWrongFalsely : Prop := jrnlWholeRow.holds Try.pinned (OpenSpec.ofChange jrnlWholeWrong)

/-- 'tenancylaw6.JrnlHead': WHATEVER THE INPUT: true; the input reads as it did. -/
def jrnlHeadSpec : ChangeSpec := { name := "jrnlHead", fn := fun _ => fun
  | [d1, d2] => { results := [.lit (.bool true)], args := [d1, d2] }
  | _ => none }
def jrnlHeadRow : OpenClaim := { program := "ytegfdigljpnhcaa", sum := "85383c83d9e6b67540bfcba26a0d3c3707a575b49d4b2ba3f51a293d2485af86", func := "tenancy/tenancylaw6.JrnlHead", spec := "jrnlHead", inPlace := ["internal/abi.NoEscape", "internal/bytealg.MakeNoZero"], unfollowed := true, recurses := true, apart := false }
def JrnlHeadSaid : Prop := jrnlHeadRow.holds Try.pinned (OpenSpec.ofChange jrnlHeadSpec)

/-- ITS FALSE NEIGHBOUR: 'it returns false'. Refute it at one input. -/
def jrnlHeadWrong : ChangeSpec := { name := "jrnlHead", fn := fun _ => fun
  | [d1, d2] => { results := [.lit (.bool false)], args := [d1, d2] }
  | _ => none }
def JrnlHeadWrongFalsely : Prop := jrnlHeadRow.holds Try.pinned (OpenSpec.ofChange jrnlHeadWrong)

/-- 'tenancylaw6.JrnlTwice': WHATEVER THE INPUT: true; the input reads as it did. -/
def jrnlTwiceSpec : ChangeSpec := { name := "jrnlTwice", fn := fun _ => fun
  | [d1, d2, d3, d4] => { results := [.lit (.bool true)], args := [d1, d2, d3, d4] }
  | _ => none }
def jrnlTwiceRow : OpenClaim := { program := "ytegfdigljpnhcaa", sum := "85383c83d9e6b67540bfcba26a0d3c3707a575b49d4b2ba3f51a293d2485af86", func := "tenancy/tenancylaw6.JrnlTwice", spec := "jrnlTwice", inPlace := ["internal/abi.NoEscape", "internal/bytealg.MakeNoZero"], unfollowed := true, recurses := true, apart := false }
def JrnlTwiceSaid : Prop := jrnlTwiceRow.holds Try.pinned (OpenSpec.ofChange jrnlTwiceSpec)

/-- ITS FALSE NEIGHBOUR: 'it returns false'. Refute it at one input. -/
def jrnlTwiceWrong : ChangeSpec := { name := "jrnlTwice", fn := fun _ => fun
  | [d1, d2, d3, d4] => { results := [.lit (.bool false)], args := [d1, d2, d3, d4] }
  | _ => none }
def JrnlTwiceWrongFalsely : Prop := jrnlTwiceRow.holds Try.pinned (OpenSpec.ofChange jrnlTwiceWrong)

/-- 'tenancylaw6.JrnlMany': WHATEVER THE INPUT: true; the input reads as it did. -/
def jrnlManySpec : ChangeSpec := { name := "jrnlMany", fn := fun _ => fun
  | [d] => { results := [.lit (.bool true)], args := [d] }
  | _ => none }
def jrnlManyRow : OpenClaim := { program := "ytegfdigljpnhcaa", sum := "85383c83d9e6b67540bfcba26a0d3c3707a575b49d4b2ba3f51a293d2485af86", func := "tenancy/tenancylaw6.JrnlMany", spec := "jrnlMany", inPlace := ["internal/abi.NoEscape", "internal/bytealg.MakeNoZero"], unfollowed := true, recurses := true, apart := false }
def JrnlManySaid : Prop := jrnlManyRow.holds Try.pinned (OpenSpec.ofChange jrnlManySpec)

/-- ITS FALSE NEIGHBOUR: 'it returns false'. Refute it at one input. -/
def jrnlManyWrong : ChangeSpec := { name := "jrnlMany", fn := fun _ => fun
  | [d] => { results := [.lit (.bool false)], args := [d] }
  | _ => none }
def JrnlManyWrongFalsely : Prop := jrnlManyRow.holds Try.pinned (OpenSpec.ofChange jrnlManyWrong)

/-- 'tenancylaw9.MarkAll': WHATEVER THE INPUT: true; the input reads as it did. -/
def markAllSpec : ChangeSpec := { name := "markAll", fn := fun _ => fun
  | [d1, d2, d3, d4, d5] => { results := [.lit (.bool true)], args := [d1, d2, d3, d4, d5] }
  | _ => none }
def markAllRow : OpenClaim := { program := "ytegfdigljpnhcaa", sum := "85383c83d9e6b67540bfcba26a0d3c3707a575b49d4b2ba3f51a293d2485af86", func := "tenancy/tenancylaw9.MarkAll", spec := "markAll", unfollowed := true, recurses := true, apart := false }
def MarkAllSaid : Prop := markAllRow.holds Try.pinned (OpenSpec.ofChange markAllSpec)

/-- ITS FALSE NEIGHBOUR: 'it returns false'. Refute it at one input. -/
def markAllWrong : ChangeSpec := { name := "markAll", fn := fun _ => fun
  | [d1, d2, d3, d4, d5] => { results := [.lit (.bool false)], args := [d1, d2, d3, d4, d5] }
  | _ => none }
def MarkAllWrongFalsely : Prop := markAllRow.holds Try.pinned (OpenSpec.ofChange markAllWrong)

/-- 'tenancylaw9.MarkLast': WHATEVER THE INPUT: true; the input reads as it did. -/
def markLastSpec : ChangeSpec := { name := "markLast", fn := fun _ => fun
  | [d] => { results := [.lit (.bool true)], args := [d] }
  | _ => none }
def markLastRow : OpenClaim := { program := "ytegfdigljpnhcaa", sum := "85383c83d9e6b67540bfcba26a0d3c3707a575b49d4b2ba3f51a293d2485af86", func := "tenancy/tenancylaw9.MarkLast", spec := "markLast", unfollowed := true, recurses := true, apart := false }
def MarkLastSaid : Prop := markLastRow.holds Try.pinned (OpenSpec.ofChange markLastSpec)

/-- ITS FALSE NEIGHBOUR: 'it returns false'. Refute it at one input. -/
def markLastWrong : ChangeSpec := { name := "markLast", fn := fun _ => fun
  | [d] => { results := [.lit (.bool false)], args := [d] }
  | _ => none }
def MarkLastWrongFalsely : Prop := markLastRow.holds Try.pinned (OpenSpec.ofChange markLastWrong)

/-- 'tenancylaw9.MarkForms': WHATEVER THE INPUT: true; the input reads as it did. -/
def markFormsSpec : ChangeSpec := { name := "markForms", fn := fun _ => fun
  | [] => { results := [.lit (.bool true)], args := [] }
  | _ => none }
def markFormsRow : OpenClaim := { program := "ytegfdigljpnhcaa", sum := "85383c83d9e6b67540bfcba26a0d3c3707a575b49d4b2ba3f51a293d2485af86", func := "tenancy/tenancylaw9.MarkForms", spec := "markForms", unfollowed := true, recurses := true, apart := false }
def MarkFormsSaid : Prop := markFormsRow.holds Try.pinned (OpenSpec.ofChange markFormsSpec)

/-- ITS FALSE NEIGHBOUR: 'it returns false'. Refute it at one input. -/
def markFormsWrong : ChangeSpec := { name := "markForms", fn := fun _ => fun
  | [] => { results := [.lit (.bool false)], args := [] }
  | _ => none }
def MarkFormsWrongFalsely : Prop := markFormsRow.holds Try.pinned (OpenSpec.ofChange markFormsWrong)

/- THE SECOND FORM. 'bulk': how many values and letters a reading holds, each counted each time it is reached (what is shared counts as often as it is met; a slice's spare places count too). A statement '..UptoSaid' is the law's where the arguments, and the package variables that the reading takes, are together of bulk at most 1048576: NARROWER than '..Said'. Prove '..Said' where nothing that the law and all that it calls make is longer than what came in: it says more and counts as full. Else prove '..UptoSaid'. A law counts once. -/
mutual
def uptoBulk {H : Type} : DataW H → Nat
  | .lit (.string bytes) => bytes.length + 1
  | .lit _ => 1
  | .nil => 1
  | .ptr d => uptoBulk d + 1
  | .slice elems spare => uptoBulkAll elems + uptoBulkAll spare + 1
  | .agg parts => uptoBulkAll parts + 1
  | .iface _ d => uptoBulk d + 1
  | .map entries => uptoBulkEntries entries + 1
  | .held _ => 1
def uptoBulkAll {H : Type} : List (DataW H) → Nat
  | [] => 0
  | d :: r => uptoBulk d + uptoBulkAll r
def uptoBulkEntries {H : Type} : List (Lit × DataW H) → Nat
  | [] => 0
  | x :: r => uptoBulkEntry x + uptoBulkEntries r
def uptoBulkEntry {H : Type} : Lit × DataW H → Nat
  | (.string bytes, d) => bytes.length + uptoBulk d + 1
  | (_, d) => uptoBulk d + 1
 end
def uptoSmall : (H : Type) → List (DataW H) → Bool := fun _ ds => decide (uptoBulkAll ds ≤ 1048576)
def OpenSpec.upto (s : _root_.Go.ChangeSpec) : _root_.Go.OpenSpec := { _root_.Go.OpenSpec.ofChange s with cond := some uptoSmall }

/-- 'tenancylaw6.JrnlWhole', WHERE WHAT IT READS IS OF BULK AT MOST 1048576: true; the input reads as it did. -/
def jrnlWholeUptoRow : OpenClaim := { program := "ytegfdigljpnhcaa", sum := "85383c83d9e6b67540bfcba26a0d3c3707a575b49d4b2ba3f51a293d2485af86", func := "tenancy/tenancylaw6.JrnlWhole", spec := "jrnlWhole", inPlace := ["internal/abi.NoEscape", "internal/bytealg.MakeNoZero"], unfollowed := true, recurses := true, apart := false, narrowed := true }
def JrnlWholeUptoSaid : Prop := jrnlWholeUptoRow.holds Try.pinned (OpenSpec.upto jrnlWholeSpec)

/-- 'tenancylaw6.JrnlHead', WHERE WHAT IT READS IS OF BULK AT MOST 1048576: true; the input reads as it did. -/
def jrnlHeadUptoRow : OpenClaim := { program := "ytegfdigljpnhcaa", sum := "85383c83d9e6b67540bfcba26a0d3c3707a575b49d4b2ba3f51a293d2485af86", func := "tenancy/tenancylaw6.JrnlHead", spec := "jrnlHead", inPlace := ["internal/abi.NoEscape", "internal/bytealg.MakeNoZero"], unfollowed := true, recurses := true, apart := false, narrowed := true }
def JrnlHeadUptoSaid : Prop := jrnlHeadUptoRow.holds Try.pinned (OpenSpec.upto jrnlHeadSpec)

/-- 'tenancylaw6.JrnlTwice', WHERE WHAT IT READS IS OF BULK AT MOST 1048576: true; the input reads as it did. -/
def jrnlTwiceUptoRow : OpenClaim := { program := "ytegfdigljpnhcaa", sum := "85383c83d9e6b67540bfcba26a0d3c3707a575b49d4b2ba3f51a293d2485af86", func := "tenancy/tenancylaw6.JrnlTwice", spec := "jrnlTwice", inPlace := ["internal/abi.NoEscape", "internal/bytealg.MakeNoZero"], unfollowed := true, recurses := true, apart := false, narrowed := true }
def JrnlTwiceUptoSaid : Prop := jrnlTwiceUptoRow.holds Try.pinned (OpenSpec.upto jrnlTwiceSpec)

/-- 'tenancylaw6.JrnlMany', WHERE WHAT IT READS IS OF BULK AT MOST 1048576: true; the input reads as it did. -/
def jrnlManyUptoRow : OpenClaim := { program := "ytegfdigljpnhcaa", sum := "85383c83d9e6b67540bfcba26a0d3c3707a575b49d4b2ba3f51a293d2485af86", func := "tenancy/tenancylaw6.JrnlMany", spec := "jrnlMany", inPlace := ["internal/abi.NoEscape", "internal/bytealg.MakeNoZero"], unfollowed := true, recurses := true, apart := false, narrowed := true }
def JrnlManyUptoSaid : Prop := jrnlManyUptoRow.holds Try.pinned (OpenSpec.upto jrnlManySpec)

/-- 'tenancylaw9.MarkAll', WHERE WHAT IT READS IS OF BULK AT MOST 1048576: true; the input reads as it did. -/
def markAllUptoRow : OpenClaim := { program := "ytegfdigljpnhcaa", sum := "85383c83d9e6b67540bfcba26a0d3c3707a575b49d4b2ba3f51a293d2485af86", func := "tenancy/tenancylaw9.MarkAll", spec := "markAll", unfollowed := true, recurses := true, apart := false, narrowed := true }
def MarkAllUptoSaid : Prop := markAllUptoRow.holds Try.pinned (OpenSpec.upto markAllSpec)

/-- 'tenancylaw9.MarkLast', WHERE WHAT IT READS IS OF BULK AT MOST 1048576: true; the input reads as it did. -/
def markLastUptoRow : OpenClaim := { program := "ytegfdigljpnhcaa", sum := "85383c83d9e6b67540bfcba26a0d3c3707a575b49d4b2ba3f51a293d2485af86", func := "tenancy/tenancylaw9.MarkLast", spec := "markLast", unfollowed := true, recurses := true, apart := false, narrowed := true }
def MarkLastUptoSaid : Prop := markLastUptoRow.holds Try.pinned (OpenSpec.upto markLastSpec)

/-- 'tenancylaw9.MarkForms', WHERE WHAT IT READS IS OF BULK AT MOST 1048576: true; the input reads as it did. -/
def markFormsUptoRow : OpenClaim := { program := "ytegfdigljpnhcaa", sum := "85383c83d9e6b67540bfcba26a0d3c3707a575b49d4b2ba3f51a293d2485af86", func := "tenancy/tenancylaw9.MarkForms", spec := "markForms", unfollowed := true, recurses := true, apart := false, narrowed := true }
def MarkFormsUptoSaid : Prop := markFormsUptoRow.holds Try.pinned (OpenSpec.upto markFormsSpec)

end Rows
end Go.Proofs.Ytegfdigljpnhcaa
