/- Numbers as bytes (reckoning alone). -/
import Derived.Test.YtpnegheknjeljaaGreatSymD
namespace Go.Proofs.YtpnegheknjeljaaGreat.ima
open Go Go.RowKit eng fil
set_option linter.unusedVariables false
set_option linter.unusedSimpArgs false
set_option maxRecDepth 100000

def byt (v:Int) (i:Nat):UInt8:=UInt8.ofNat (v / 256 ^ i % 256).toNat
def low (v:Int):Nat->List UInt8
 | 0=>[]
 | n+1=>byt v n :: low v n
def num (l:List UInt8):Int:=l.foldl (fun a b=>a * 256+(b.toNat:Int)) 0
@[simp] theorem Zdp (v:Int):∀ n,(low v n).length=n
 | 0=>rfl
 | n+1=>by simp [low,Zdp v n]
theorem byt_nat (v:Int) (i:Nat):((byt v i).toNat:Int)=v / 256 ^ i % 256:=by
 unfold byt
 rw [UInt8.toNat_ofNat']
 omega
theorem foldl_num (l:List UInt8):∀ a:Int,l.foldl (fun a b=>a * 256+(b.toNat:Int)) a=a * 256 ^ l.length+num l:=by
 unfold num
 induction l with
 | nil=>intro a;simp
 | cons b l ih =>
  intro a
  simp only [List.foldl_cons,List.length_cons]
  rw [ih (a * 256+b.toNat),ih (0 * 256+(b.toNat:Int)),Int.pow_succ,Int.add_mul,Int.zero_mul,Int.zero_add,Int.mul_assoc,Int.mul_comm 256,Int.add_assoc]
theorem Zo0 (b:UInt8) (l:List UInt8):num (b :: l)=(b.toNat:Int) * 256 ^ l.length+num l:=by
 have:=foldl_num l (0 * 256+(b.toNat:Int))
 rw [Int.zero_mul,Int.zero_add] at this
 rw [<- this]
 show List.foldl _ (0 * 256+(b.toNat:Int)) l=_
 rw [Int.zero_mul,Int.zero_add]
theorem emod_two (v B:Int) (hB:0 < B):(v / B % 256) * B+v % B=v % (B * 256):=by
 have e1:=Int.emod_add_mul_ediv v B
 have e2:=Int.emod_add_mul_ediv (v / B) 256
 have r0:=Int.emod_nonneg v (by omega:B ≠ 0)
 have r1:=Int.emod_lt_of_pos v hB
 have s0:=Int.emod_nonneg (v / B) (by omega:(256:Int) ≠ 0)
 have s1:=Int.emod_lt_of_pos (v / B) (by omega:(0:Int) < 256)
 generalize v % B=r at *
 generalize v / B % 256=s at *
 generalize v / B / 256=q at *
 rw [<- e2] at e1
 have e3:v=(s * B+r)+B * 256 * q:=by
  rw [<- e1,Int.mul_add,Int.mul_comm B s,<- Int.mul_assoc]
  omega
 rw [e3,Int.add_mul_emod_self_left,Int.emod_eq_of_lt]
 ·exact Int.add_nonneg (Int.mul_nonneg s0 (by omega)) r0
 ·have:(s+1) * B<=256 * B:=Int.mul_le_mul_of_nonneg_right (by omega) (by omega)
  rw [Int.add_mul,Int.one_mul,Int.mul_comm 256 B] at this
  omega
theorem num_low (v:Int):∀ n,num (low v n)=v % 256 ^ n
 | 0=>by simp [low,num]
 | n+1=>by
  rw [low,Zo0,Zdp,num_low v n,byt_nat,Int.pow_succ]
  exact emod_two v (256 ^ n) (Int.pow_pos (by omega))
theorem Zef {v:Int} {n:Nat} (h0:0<=v) (h1:v < 256 ^ n):num (low v n)=v:=by
 rw [num_low,Int.emod_eq_of_lt h0 h1]
theorem num_snoc (l:List UInt8) (b:UInt8):num (l++[b])=num l * 256+(b.toNat:Int):=by simp [num]
theorem num_nonneg (l:List UInt8):0<=num l:=by
 induction l with
 | nil=>simp [num]
 | cons b l ih =>
  rw [Zo0]
  have:(0:Int)<=(b.toNat:Int) * 256 ^ l.length:=Int.mul_nonneg (by omega) (Int.le_of_lt (Int.pow_pos (by omega)))
  omega
theorem num_lt (l:List UInt8):num l < 256 ^ l.length:=by
 induction l with
 | nil=>simp [num]
 | cons b l ih =>
  rw [Zo0,List.length_cons,Int.pow_succ]
  have hb:=b.toNat_lt
  have:((b.toNat:Int)+1) * 256 ^ l.length<=256 * 256 ^ l.length:=Int.mul_le_mul_of_nonneg_right (by omega) (Int.le_of_lt (Int.pow_pos (by omega)))
  rw [Int.add_mul,Int.one_mul,Int.mul_comm 256] at this
  omega

end Go.Proofs.YtpnegheknjeljaaGreat.ima
