/- What lasts behind each deed (package state): flushed. -/
import Derived.Test.YtonebjgdhachcaaSop
namespace Go.Proofs.Ytonebjgdhachcaa.sta
open Go Go.RowKit eng SX Fact fil fileFronts dirs pck may
open fileFronts
open pck hiding F F20 F21
open dirs hiding shR shRl shRR flR lpR cutR f0 f1 f2 f3 m0 m1 m2 x2 x3 n1
open may hiding m1 m2 m3 m4 r1 r2 r3 r4 r5
set_option linter.unusedVariables false
set_option linter.unusedSimpArgs false
set_option maxRecDepth 1000000


@[simp] theorem ex_six:(∃ z:Nat,(6:Int)=(z:Int)) ↔ True:=⟨fun _=>trivial,fun _=>⟨6,rfl⟩⟩
@[simp] theorem ex_three:(∃ z:Nat,(3:Int)=(z:Int)) ↔ True:=⟨fun _=>trivial,fun _=>⟨3,rfl⟩⟩
end Go.Proofs.Ytonebjgdhachcaa.sta
