/- The sum of bytes by bits: plain mathematics, no program. -/
import Derived.WalkKit
namespace Go.Proofs.Ytgdegpifjljnoaa.crc




theorem x4 (a b c d:Nat):(a ^^^ b) ^^^ (c ^^^ d)=(a ^^^ c) ^^^ (b ^^^ d):=by
 rw [Nat.xor_assoc,<- Nat.xor_assoc b,Nat.xor_comm b c,Nat.xor_assoc c,<- Nat.xor_assoc]






end Go.Proofs.Ytgdegpifjljnoaa.crc
