/- The sum of bytes by bits: plain mathematics, no program. -/
import Derived.WalkKit
namespace Go.Proofs.Ytnomiffghidmbaa.crc

def cBit (c:Nat):Nat:=if c % 2=1 then c / 2 ^^^ 40961 else c / 2
def cBits:Nat->Nat->Nat
 | 0,c=>c
 | k+1,c=>cBits k (cBit c)
def cByte (c:Nat):Nat:=cBits 8 c
def cSum (c:Nat) (zs:List Nat):Nat:=zs.foldl (fun c z=>cByte (c ^^^ z)) c

theorem cBit_lt {c:Nat} (h:c < 65536):cBit c < 65536:=by
 unfold cBit
 split
 ·exact Nat.xor_lt_two_pow (n:=16) (by omega) (by omega)
 ·omega
theorem cBits_lt:∀ (k:Nat) {c:Nat},c < 65536->cBits k c < 65536
 | 0,_,h=>h
 | k+1,_,h=>cBits_lt k (cBit_lt h)
theorem cByte_lt {c:Nat} (h:c < 65536):cByte c < 65536:=cBits_lt 8 h
theorem cSum_lt:∀ (zs:List Nat) {c:Nat},c < 65536->(∀ z ∈ zs,z < 256)->cSum c zs < 65536
 | [],_,h,_=>h
 | z :: zs,c,h,hz=>cSum_lt zs (cByte_lt (Nat.xor_lt_two_pow (n:=16) h (by have:=hz z (by simp);omega))) fun y hy=>hz y (by simp [hy])
theorem cBits_succ:∀ (k c:Nat),cBits (k+1) c=cBit (cBits k c)
 | 0,_=>rfl
 | k+1,c=>cBits_succ k (cBit c)
theorem cBits_add:∀ (j k c:Nat),cBits (j+k) c=cBits k (cBits j c)
 | 0,k,c=>by simp [cBits]
 | j+1,k,c=>by rw [show j+1+k=(j+k)+1 by omega];exact cBits_add j k (cBit c)

theorem cBit_xor (a b:Nat):cBit (a ^^^ b)=cBit a ^^^ cBit b:=by
 have h2:(a ^^^ b) / 2=a / 2 ^^^ b / 2:=by
  have:=@Nat.shiftRight_xor_distrib 1 a b
  simpa [Nat.shiftRight_eq_div_pow] using this
 have hm:(a ^^^ b) % 2=(a+b) % 2:=by
  have:=Nat.testBit_xor a b 0
  rw [Nat.testBit_zero,Nat.testBit_zero,Nat.testBit_zero] at this
  rcases Nat.mod_two_eq_zero_or_one a with ha | ha <;> rcases Nat.mod_two_eq_zero_or_one b with hb | hb <;> rcases Nat.mod_two_eq_zero_or_one (a ^^^ b) with hc | hc <;> rw [ha,hb,hc] at this <;> first | omega | exact absurd this (by decide)
 have x0:∀ x y:Nat,(x ^^^ 40961) ^^^ (y ^^^ 40961)=x ^^^ y:=by
  intro x y
  rw [Nat.xor_assoc,Nat.xor_comm y,<- Nat.xor_assoc 40961,Nat.xor_self,Nat.zero_xor]
 unfold cBit
 rw [h2,hm]
 rcases Nat.mod_two_eq_zero_or_one a with ha | ha <;> rcases Nat.mod_two_eq_zero_or_one b with hb | hb
 ·rw [if_neg (by omega),if_neg (by omega),if_neg (by omega)]
 ·rw [if_pos (by omega),if_neg (by omega),if_pos (by omega),Nat.xor_assoc]
 ·rw [if_pos (by omega),if_pos (by omega),if_neg (by omega),Nat.xor_assoc,Nat.xor_comm (b / 2),<- Nat.xor_assoc]
 ·rw [if_neg (by omega),if_pos (by omega),if_pos (by omega),x0]
theorem cBits_xor:∀ (k a b:Nat),cBits k (a ^^^ b)=cBits k a ^^^ cBits k b
 | 0,_,_=>rfl
 | k+1,a,b=>by show cBits k (cBit (a ^^^ b))=_;rw [cBit_xor];exact cBits_xor k _ _
theorem cByte_xor (a b:Nat):cByte (a ^^^ b)=cByte a ^^^ cByte b:=cBits_xor 8 a b

theorem x4 (a b c d:Nat):(a ^^^ b) ^^^ (c ^^^ d)=(a ^^^ c) ^^^ (b ^^^ d):=by
 rw [Nat.xor_assoc,<- Nat.xor_assoc b,Nat.xor_comm b c,Nat.xor_assoc c,<- Nat.xor_assoc]
theorem cSum_xor:∀ (xs ys:List Nat) (a b:Nat),xs.length=ys.length->cSum (a ^^^ b) (List.zipWith (· ^^^ ·) xs ys)=cSum a xs ^^^ cSum b ys
 | [],[],a,b,_=>rfl
 | x :: xs,y :: ys,a,b,h=>by
  have:=cSum_xor xs ys (cByte (a ^^^ x)) (cByte (b ^^^ y)) (by simpa using h)
  rw [<- cByte_xor] at this
  show cSum (cByte ((a ^^^ b) ^^^ (x ^^^ y))) _=_
  rw [x4]
  exact this
 | [],_ :: _,_,_,h=>by simp at h
 | _ :: _,[],_,_,h=>by simp at h

theorem cBit_zero {c:Nat} (h:c < 65536) (h0:cBit c=0):c=0:=by
 unfold cBit at h0
 split at h0
 ·have:c / 2=40961:=by
   have e:(c / 2 ^^^ 40961) ^^^ 40961=0 ^^^ 40961:=by rw [h0]
   rw [Nat.xor_assoc,Nat.xor_self,Nat.xor_zero,Nat.zero_xor] at e
   exact e
  omega
 ·omega
theorem cBits_zero:∀ (k:Nat) {c:Nat},c < 65536->cBits k c=0->c=0
 | 0,_,_,h=>h
 | k+1,_,h,h0=>cBit_zero h (cBits_zero k (cBit_lt h) h0)
theorem cBits_none:∀ (k:Nat),cBits k 0=0
 | 0=>rfl
 | k+1=>cBits_none k

theorem cSum_app (c:Nat) (xs ys:List Nat):cSum c (xs++ys)=cSum (cSum c xs) ys:=List.foldl_append
theorem Zlo:∀ (k c:Nat),cSum c (List.replicate k 0)=cBits (8 * k) c
 | 0,_=>rfl
 | k+1,c=>by
  show cSum (cByte (c ^^^ 0)) (List.replicate k 0)=_
  rw [Zlo k,Nat.xor_zero,show 8 * (k+1)=8+8 * k by omega,cBits_add]
  rfl



theorem sum_turned (xs:List Nat) (k:Nat) (d:List Nat) (hk:k+d.length<=xs.length) (hd:cSum 0 d ≠ 0) (hb:∀ z ∈ d,z < 256) :
  cSum 0 (List.zipWith (· ^^^ ·) xs (List.replicate k 0++d++List.replicate (xs.length - k - d.length) 0)) ≠ cSum 0 xs:=by
 have h:=cSum_xor xs (List.replicate k 0++d++List.replicate (xs.length - k - d.length) 0) 0 0 (by simp;omega)
 rw [Nat.xor_self] at h
 rw [h,cSum_app,cSum_app,Zlo,Zlo,cBits_none]
 intro e
 have e2:cSum 0 xs ^^^ (cSum 0 xs ^^^ cBits (8 * (xs.length - k - d.length)) (cSum 0 d))=cSum 0 xs ^^^ cSum 0 xs:=by rw [e]
 rw [<- Nat.xor_assoc,Nat.xor_self,Nat.zero_xor] at e2
 exact hd (cBits_zero _ (cSum_lt d (by omega) hb) e2)

end Go.Proofs.Ytnomiffghidmbaa.crc
