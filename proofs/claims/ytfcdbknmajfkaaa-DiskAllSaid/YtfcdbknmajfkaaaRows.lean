/-
  No cell of these rows narrows 'for every input' (looked for: loops, veiled, ifaces, maps, wideKeys, modest, calm, conditions, laid).
  DERIVED. THE GIVEN ROWS OF THIS SEAT. 9 by the template 'for every input the law returns true; each argument reads behind the call as it read before'; 0 by the template 'total and deterministic' (their statements: YtfcdbknmajfkaaaTotals.lean).
  GIVEN WITH THE SEED: the statements are not yours to turn. If you find one false, say at which input.
  Laid BY PROGRAM, IN A SANDBOX (cutbox-rows.mjs): the forced cells as the released guide's own fill.sh prints them over the translation 8a344b2d05101ca1… (all of the seat's roots in one cut). By AI agents, Wed Nov 11 2026. No macro, syntax, notation, axiom, sorry.
-/
import Derived.Test.YtfcdbknmajfkaaaChecked
import GoSem.Claim
import GoSem.ClaimJoined
import GoSem.ClaimMapViews
import Derived.JoinedTies
import Derived.KernelRfl
namespace Go.Proofs.Ytfcdbknmajfkaaa
/- THE CELL 'sum', in the pinned program and in every row, IS THE sha256 OF THE DUMP (.gsa) THAT YtfcdbknmajfkaaaProg.lean LOADS. Nothing in Lean hashes anything: it is a label: what it is worth is what the hold of that sum in a sandbox is worth. -/
noncomputable def Try.pinned : Pinned := { name := "ytfcdbknmajfkaaa", sum := "8a344b2d05101ca1dfc6c252faf3ed34874f9d2d3b1a468ba6e40a8fe2d3b44b", checked := Try.checked }
namespace Rows
def none {H : Type} : Left H := { results := [], args := [] }

/-- 'tenancylaw5.DiskAll': WHATEVER THE INPUT: true; the input reads as it did. -/
def diskAllSpec : ChangeSpec := { name := "diskAll", fn := fun _ => fun
  | [d1, d2, d3, d4, d5] => { results := [.lit (.bool true)], args := [d1, d2, d3, d4, d5] }
  | _ => none }
def diskAllRow : OpenClaim := { program := "ytfcdbknmajfkaaa", sum := "8a344b2d05101ca1dfc6c252faf3ed34874f9d2d3b1a468ba6e40a8fe2d3b44b", func := "tenancy/tenancylaw5.DiskAll", spec := "diskAll", inPlace := ["internal/abi.NoEscape", "internal/bytealg.MakeNoZero"], unfollowed := true, recurses := true, apart := false }
def DiskAllSaid : Prop := diskAllRow.holds Try.pinned (OpenSpec.ofChange diskAllSpec)

/-- ITS FALSE NEIGHBOUR: 'it returns false'. Refute it at one input. -/
def diskAllWrong : ChangeSpec := { name := "diskAll", fn := fun _ => fun
  | [d1, d2, d3, d4, d5] => { results := [.lit (.bool false)], args := [d1, d2, d3, d4, d5] }
  | _ => none }
def DiskAllWrongFalsely : Prop := diskAllRow.holds Try.pinned (OpenSpec.ofChange diskAllWrong)

/-- 'tenancylaw6.JrnlWhole': WHATEVER THE INPUT: true; the input reads as it did. -/
def jrnlWholeSpec : ChangeSpec := { name := "jrnlWhole", fn := fun _ => fun
  | [d1, d2, d3, d4, d5, d6] => { results := [.lit (.bool true)], args := [d1, d2, d3, d4, d5, d6] }
  | _ => none }
def jrnlWholeRow : OpenClaim := { program := "ytfcdbknmajfkaaa", sum := "8a344b2d05101ca1dfc6c252faf3ed34874f9d2d3b1a468ba6e40a8fe2d3b44b", func := "tenancy/tenancylaw6.JrnlWhole", spec := "jrnlWhole", inPlace := ["internal/abi.NoEscape", "internal/bytealg.MakeNoZero"], unfollowed := true, recurses := true, apart := false }
def JrnlWholeSaid : Prop := jrnlWholeRow.holds Try.pinned (OpenSpec.ofChange jrnlWholeSpec)

/-- ITS FALSE NEIGHBOUR: 'it returns false'. Refute it at one input. -/
def jrnlWholeWrong : ChangeSpec := { name := "jrnlWhole", fn := fun _ => fun
  | [d1, d2, d3, d4, d5, d6] => { results := [.lit (.bool false)], args := [d1, d2, d3, d4, d5, d6] }
  | _ => none }
def JrnlWholeWrongFalsely : Prop := jrnlWholeRow.holds Try.pinned (OpenSpec.ofChange jrnlWholeWrong)

/-- 'tenancylaw6.JrnlHead': WHATEVER THE INPUT: true; the input reads as it did. -/
def jrnlHeadSpec : ChangeSpec := { name := "jrnlHead", fn := fun _ => fun
  | [d1, d2] => { results := [.lit (.bool true)], args := [d1, d2] }
  | _ => none }
def jrnlHeadRow : OpenClaim := { program := "ytfcdbknmajfkaaa", sum := "8a344b2d05101ca1dfc6c252faf3ed34874f9d2d3b1a468ba6e40a8fe2d3b44b", func := "tenancy/tenancylaw6.JrnlHead", spec := "jrnlHead", inPlace := ["internal/abi.NoEscape", "internal/bytealg.MakeNoZero"], unfollowed := true, recurses := true, apart := false }
def JrnlHeadSaid : Prop := jrnlHeadRow.holds Try.pinned (OpenSpec.ofChange jrnlHeadSpec)

/-- ITS FALSE NEIGHBOUR: 'it returns false'. Refute it at one input. -/
def jrnlHeadWrong : ChangeSpec := { name := "jrnlHead", fn := fun _ => fun
  | [d1, d2] => { results := [.lit (.bool false)], args := [d1, d2] }
  | _ => none }
def JrnlHeadWrongFalsely : Prop := jrnlHeadRow.holds Try.pinned (OpenSpec.ofChange jrnlHeadWrong)

/-- 'tenancylaw6.JrnlTwice': WHATEVER THE INPUT: true; the input reads as it did. -/
def jrnlTwiceSpec : ChangeSpec := { name := "jrnlTwice", fn := fun _ => fun
  | [d1, d2, d3, d4] => { results := [.lit (.bool true)], args := [d1, d2, d3, d4] }
  | _ => none }
def jrnlTwiceRow : OpenClaim := { program := "ytfcdbknmajfkaaa", sum := "8a344b2d05101ca1dfc6c252faf3ed34874f9d2d3b1a468ba6e40a8fe2d3b44b", func := "tenancy/tenancylaw6.JrnlTwice", spec := "jrnlTwice", inPlace := ["internal/abi.NoEscape", "internal/bytealg.MakeNoZero"], unfollowed := true, recurses := true, apart := false }
def JrnlTwiceSaid : Prop := jrnlTwiceRow.holds Try.pinned (OpenSpec.ofChange jrnlTwiceSpec)

/-- ITS FALSE NEIGHBOUR: 'it returns false'. Refute it at one input. -/
def jrnlTwiceWrong : ChangeSpec := { name := "jrnlTwice", fn := fun _ => fun
  | [d1, d2, d3, d4] => { results := [.lit (.bool false)], args := [d1, d2, d3, d4] }
  | _ => none }
def JrnlTwiceWrongFalsely : Prop := jrnlTwiceRow.holds Try.pinned (OpenSpec.ofChange jrnlTwiceWrong)

/-- 'tenancylaw6.JrnlMany': WHATEVER THE INPUT: true; the input reads as it did. -/
def jrnlManySpec : ChangeSpec := { name := "jrnlMany", fn := fun _ => fun
  | [d] => { results := [.lit (.bool true)], args := [d] }
  | _ => none }
def jrnlManyRow : OpenClaim := { program := "ytfcdbknmajfkaaa", sum := "8a344b2d05101ca1dfc6c252faf3ed34874f9d2d3b1a468ba6e40a8fe2d3b44b", func := "tenancy/tenancylaw6.JrnlMany", spec := "jrnlMany", inPlace := ["internal/abi.NoEscape", "internal/bytealg.MakeNoZero"], unfollowed := true, recurses := true, apart := false }
def JrnlManySaid : Prop := jrnlManyRow.holds Try.pinned (OpenSpec.ofChange jrnlManySpec)

/-- ITS FALSE NEIGHBOUR: 'it returns false'. Refute it at one input. -/
def jrnlManyWrong : ChangeSpec := { name := "jrnlMany", fn := fun _ => fun
  | [d] => { results := [.lit (.bool false)], args := [d] }
  | _ => none }
def JrnlManyWrongFalsely : Prop := jrnlManyRow.holds Try.pinned (OpenSpec.ofChange jrnlManyWrong)

/-- 'tenancylaw7.FileAll': WHATEVER THE INPUT: true; the input reads as it did. -/
def fileAllSpec : ChangeSpec := { name := "fileAll", fn := fun _ => fun
  | [d1, d2, d3] => { results := [.lit (.bool true)], args := [d1, d2, d3] }
  | _ => none }
def fileAllRow : OpenClaim := { program := "ytfcdbknmajfkaaa", sum := "8a344b2d05101ca1dfc6c252faf3ed34874f9d2d3b1a468ba6e40a8fe2d3b44b", func := "tenancy/tenancylaw7.FileAll", spec := "fileAll", unfollowed := true, recurses := true, apart := false }
def FileAllSaid : Prop := fileAllRow.holds Try.pinned (OpenSpec.ofChange fileAllSpec)

/-- ITS FALSE NEIGHBOUR: 'it returns false'. Refute it at one input. -/
def fileAllWrong : ChangeSpec := { name := "fileAll", fn := fun _ => fun
  | [d1, d2, d3] => { results := [.lit (.bool false)], args := [d1, d2, d3] }
  | _ => none }
def FileAllWrongFalsely : Prop := fileAllRow.holds Try.pinned (OpenSpec.ofChange fileAllWrong)

/-- 'tenancylaw8.DirAll': WHATEVER THE INPUT: true; the input reads as it did. -/
def dirAllSpec : ChangeSpec := { name := "dirAll", fn := fun _ => fun
  | [d1, d2, d3, d4] => { results := [.lit (.bool true)], args := [d1, d2, d3, d4] }
  | _ => none }
def dirAllRow : OpenClaim := { program := "ytfcdbknmajfkaaa", sum := "8a344b2d05101ca1dfc6c252faf3ed34874f9d2d3b1a468ba6e40a8fe2d3b44b", func := "tenancy/tenancylaw8.DirAll", spec := "dirAll", unfollowed := true, recurses := true, apart := false }
def DirAllSaid : Prop := dirAllRow.holds Try.pinned (OpenSpec.ofChange dirAllSpec)

/-- ITS FALSE NEIGHBOUR: 'it returns false'. Refute it at one input. -/
def dirAllWrong : ChangeSpec := { name := "dirAll", fn := fun _ => fun
  | [d1, d2, d3, d4] => { results := [.lit (.bool false)], args := [d1, d2, d3, d4] }
  | _ => none }
def DirAllWrongFalsely : Prop := dirAllRow.holds Try.pinned (OpenSpec.ofChange dirAllWrong)

/-- 'tenancylaw8.DirForms': WHATEVER THE INPUT: true; the input reads as it did. -/
def dirFormsSpec : ChangeSpec := { name := "dirForms", fn := fun _ => fun
  | [] => { results := [.lit (.bool true)], args := [] }
  | _ => none }
def dirFormsRow : OpenClaim := { program := "ytfcdbknmajfkaaa", sum := "8a344b2d05101ca1dfc6c252faf3ed34874f9d2d3b1a468ba6e40a8fe2d3b44b", func := "tenancy/tenancylaw8.DirForms", spec := "dirForms", unfollowed := true, recurses := true, apart := false }
def DirFormsSaid : Prop := dirFormsRow.holds Try.pinned (OpenSpec.ofChange dirFormsSpec)

/-- ITS FALSE NEIGHBOUR: 'it returns false'. Refute it at one input. -/
def dirFormsWrong : ChangeSpec := { name := "dirForms", fn := fun _ => fun
  | [] => { results := [.lit (.bool false)], args := [] }
  | _ => none }
def DirFormsWrongFalsely : Prop := dirFormsRow.holds Try.pinned (OpenSpec.ofChange dirFormsWrong)

/-- 'tenancylaw8.DirOnce': WHATEVER THE INPUT: true; the input reads as it did. -/
def dirOnceSpec : ChangeSpec := { name := "dirOnce", fn := fun _ => fun
  | [d1, d2] => { results := [.lit (.bool true)], args := [d1, d2] }
  | _ => none }
def dirOnceRow : OpenClaim := { program := "ytfcdbknmajfkaaa", sum := "8a344b2d05101ca1dfc6c252faf3ed34874f9d2d3b1a468ba6e40a8fe2d3b44b", func := "tenancy/tenancylaw8.DirOnce", spec := "dirOnce", unfollowed := true, recurses := true, apart := false }
def DirOnceSaid : Prop := dirOnceRow.holds Try.pinned (OpenSpec.ofChange dirOnceSpec)

/-- ITS FALSE NEIGHBOUR: 'it returns false'. Refute it at one input. -/
def dirOnceWrong : ChangeSpec := { name := "dirOnce", fn := fun _ => fun
  | [d1, d2] => { results := [.lit (.bool false)], args := [d1, d2] }
  | _ => none }
def DirOnceWrongFalsely : Prop := dirOnceRow.holds Try.pinned (OpenSpec.ofChange dirOnceWrong)

/- THE SECOND FORM. 'bulk': how many values and letters a reading holds, each counted each time it is reached (what is shared counts as often as it is met; a slice's spare places count too). A statement '..UptoSaid' is the law's where the arguments, and the package variables that the reading takes, are together of bulk at most 1048576: NARROWER than '..Said'. Prove '..Said' where nothing that the law and all that it calls make is longer than what came in: it says more and counts as full. Else prove '..UptoSaid'. A law counts once. -/
mutual
def uptoBulk {H : Type} : DataW H → Nat
  | .lit (.string bytes) => bytes.length + 1
  | .lit _ => 1
  | .nil => 1
  | .ptr d => uptoBulk d + 1
  | .slice elems spare => uptoBulkAll elems + uptoBulkAll spare + 1
  | .agg parts => uptoBulkAll parts + 1
  | .iface _ d => uptoBulk d + 1
  | .map entries => uptoBulkEntries entries + 1
  | .held _ => 1
def uptoBulkAll {H : Type} : List (DataW H) → Nat
  | [] => 0
  | d :: r => uptoBulk d + uptoBulkAll r
def uptoBulkEntries {H : Type} : List (Lit × DataW H) → Nat
  | [] => 0
  | x :: r => uptoBulkEntry x + uptoBulkEntries r
def uptoBulkEntry {H : Type} : Lit × DataW H → Nat
  | (.string bytes, d) => bytes.length + uptoBulk d + 1
  | (_, d) => uptoBulk d + 1
 end
def uptoSmall : (H : Type) → List (DataW H) → Bool := fun _ ds => decide (uptoBulkAll ds ≤ 1048576)
def OpenSpec.upto (s : _root_.Go.ChangeSpec) : _root_.Go.OpenSpec := { _root_.Go.OpenSpec.ofChange s with cond := some uptoSmall }

/-- 'tenancylaw5.DiskAll', WHERE WHAT IT READS IS OF BULK AT MOST 1048576: true; the input reads as it did. -/
def diskAllUptoRow : OpenClaim := { program := "ytfcdbknmajfkaaa", sum := "8a344b2d05101ca1dfc6c252faf3ed34874f9d2d3b1a468ba6e40a8fe2d3b44b", func := "tenancy/tenancylaw5.DiskAll", spec := "diskAll", inPlace := ["internal/abi.NoEscape", "internal/bytealg.MakeNoZero"], unfollowed := true, recurses := true, apart := false, narrowed := true }
def DiskAllUptoSaid : Prop := diskAllUptoRow.holds Try.pinned (OpenSpec.upto diskAllSpec)

/-- 'tenancylaw6.JrnlWhole', WHERE WHAT IT READS IS OF BULK AT MOST 1048576: true; the input reads as it did. -/
def jrnlWholeUptoRow : OpenClaim := { program := "ytfcdbknmajfkaaa", sum := "8a344b2d05101ca1dfc6c252faf3ed34874f9d2d3b1a468ba6e40a8fe2d3b44b", func := "tenancy/tenancylaw6.JrnlWhole", spec := "jrnlWhole", inPlace := ["internal/abi.NoEscape", "internal/bytealg.MakeNoZero"], unfollowed := true, recurses := true, apart := false, narrowed := true }
def JrnlWholeUptoSaid : Prop := jrnlWholeUptoRow.holds Try.pinned (OpenSpec.upto jrnlWholeSpec)

/-- 'tenancylaw6.JrnlHead', WHERE WHAT IT READS IS OF BULK AT MOST 1048576: true; the input reads as it did. -/
def jrnlHeadUptoRow : OpenClaim := { program := "ytfcdbknmajfkaaa", sum := "8a344b2d05101ca1dfc6c252faf3ed34874f9d2d3b1a468ba6e40a8fe2d3b44b", func := "tenancy/tenancylaw6.JrnlHead", spec := "jrnlHead", inPlace := ["internal/abi.NoEscape", "internal/bytealg.MakeNoZero"], unfollowed := true, recurses := true, apart := false, narrowed := true }
def JrnlHeadUptoSaid : Prop := jrnlHeadUptoRow.holds Try.pinned (OpenSpec.upto jrnlHeadSpec)

/-- 'tenancylaw6.JrnlTwice', WHERE WHAT IT READS IS OF BULK AT MOST 1048576: true; the input reads as it did. -/
def jrnlTwiceUptoRow : OpenClaim := { program := "ytfcdbknmajfkaaa", sum := "8a344b2d05101ca1dfc6c252faf3ed34874f9d2d3b1a468ba6e40a8fe2d3b44b", func := "tenancy/tenancylaw6.JrnlTwice", spec := "jrnlTwice", inPlace := ["internal/abi.NoEscape", "internal/bytealg.MakeNoZero"], unfollowed := true, recurses := true, apart := false, narrowed := true }
def JrnlTwiceUptoSaid : Prop := jrnlTwiceUptoRow.holds Try.pinned (OpenSpec.upto jrnlTwiceSpec)

/-- 'tenancylaw6.JrnlMany', WHERE WHAT IT READS IS OF BULK AT MOST 1048576: true; the input reads as it did. -/
def jrnlManyUptoRow : OpenClaim := { program := "ytfcdbknmajfkaaa", sum := "8a344b2d05101ca1dfc6c252faf3ed34874f9d2d3b1a468ba6e40a8fe2d3b44b", func := "tenancy/tenancylaw6.JrnlMany", spec := "jrnlMany", inPlace := ["internal/abi.NoEscape", "internal/bytealg.MakeNoZero"], unfollowed := true, recurses := true, apart := false, narrowed := true }
def JrnlManyUptoSaid : Prop := jrnlManyUptoRow.holds Try.pinned (OpenSpec.upto jrnlManySpec)

/-- 'tenancylaw7.FileAll', WHERE WHAT IT READS IS OF BULK AT MOST 1048576: true; the input reads as it did. -/
def fileAllUptoRow : OpenClaim := { program := "ytfcdbknmajfkaaa", sum := "8a344b2d05101ca1dfc6c252faf3ed34874f9d2d3b1a468ba6e40a8fe2d3b44b", func := "tenancy/tenancylaw7.FileAll", spec := "fileAll", unfollowed := true, recurses := true, apart := false, narrowed := true }
def FileAllUptoSaid : Prop := fileAllUptoRow.holds Try.pinned (OpenSpec.upto fileAllSpec)

/-- 'tenancylaw8.DirAll', WHERE WHAT IT READS IS OF BULK AT MOST 1048576: true; the input reads as it did. -/
def dirAllUptoRow : OpenClaim := { program := "ytfcdbknmajfkaaa", sum := "8a344b2d05101ca1dfc6c252faf3ed34874f9d2d3b1a468ba6e40a8fe2d3b44b", func := "tenancy/tenancylaw8.DirAll", spec := "dirAll", unfollowed := true, recurses := true, apart := false, narrowed := true }
def DirAllUptoSaid : Prop := dirAllUptoRow.holds Try.pinned (OpenSpec.upto dirAllSpec)

/-- 'tenancylaw8.DirForms', WHERE WHAT IT READS IS OF BULK AT MOST 1048576: true; the input reads as it did. -/
def dirFormsUptoRow : OpenClaim := { program := "ytfcdbknmajfkaaa", sum := "8a344b2d05101ca1dfc6c252faf3ed34874f9d2d3b1a468ba6e40a8fe2d3b44b", func := "tenancy/tenancylaw8.DirForms", spec := "dirForms", unfollowed := true, recurses := true, apart := false, narrowed := true }
def DirFormsUptoSaid : Prop := dirFormsUptoRow.holds Try.pinned (OpenSpec.upto dirFormsSpec)

/-- 'tenancylaw8.DirOnce', WHERE WHAT IT READS IS OF BULK AT MOST 1048576: true; the input reads as it did. -/
def dirOnceUptoRow : OpenClaim := { program := "ytfcdbknmajfkaaa", sum := "8a344b2d05101ca1dfc6c252faf3ed34874f9d2d3b1a468ba6e40a8fe2d3b44b", func := "tenancy/tenancylaw8.DirOnce", spec := "dirOnce", unfollowed := true, recurses := true, apart := false, narrowed := true }
def DirOnceUptoSaid : Prop := dirOnceUptoRow.holds Try.pinned (OpenSpec.upto dirOnceSpec)

end Rows
end Go.Proofs.Ytfcdbknmajfkaaa
