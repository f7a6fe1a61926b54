/- Disks as plain things: what lasts, what waits. -/
import Derived.Test.YtpnegheknjeljaaGreatRowE
namespace Go.Proofs.YtpnegheknjeljaaGreat.dsk
set_option maxRecDepth 100000
open Go.RowKit

structure D where
 last:List ByteArray
 wait:List (Nat × ByteArray)
 arm:Nat
 down:Bool

def encP:Enc (Nat × ByteArray):={ sz:=2,enc:=fun p=>[.int .i64 (p.1:Int),.string p.2],len:=fun _=>rfl,one:=fun _ u hu=>by simp at hu;rcases hu with rfl | rfl <;> rfl,pos:=by decide }

def IsD (w:World) (v:Value) (d:D):Prop :=
 ∃ al cl aw cw,v=.agg #[.slice al d.last.length cl,.slice aw d.wait.length cw,.int .i64 (d.arm:Int),.bool d.down] ∧
  RowE encS w (.slice al d.last.length cl) d.last/\RowE encP w (.slice aw d.wait.length cw) d.wait

theorem IsD.ex {w w':World} {v:Value} {d:D} (h:IsD w v d) (g:Ex w w'):IsD w' v d:=by
 obtain ⟨al,cl,aw,cw,e,h1,h2⟩:=h
 exact ⟨al,cl,aw,cw,e,h1.ex g,h2.ex g⟩
theorem IsD.mk' {w:World} {vl vw:Value} {d:D} (h1:RowE encS w vl d.last) (h2:RowE encP w vw d.wait):IsD w (.agg #[vl,vw,.int .i64 (d.arm:Int),.bool d.down]) d:=by
 obtain ⟨al,cl,rfl,_,_⟩:=h1.len
 obtain ⟨aw,cw,rfl,_,_⟩:=h2.len
 exact ⟨al,cl,aw,cw,rfl,h1,h2⟩

structure D.ok (d:D):Prop where
 n:d.last.length<=64
 len:∀ s ∈ d.last,s.size=32
 wlen:∀ p ∈ d.wait,p.1 < d.last.length/\p.2.size=32
 many:d.wait.length<=1000
 armed:d.arm<=1000

def nop:Nat × ByteArray:=(0,ByteArray.empty)
def putAt (b ahead:ByteArray) (n:Nat):ByteArray:=b.extract 0 n++ahead.extract n 32
def Zrc (l:List ByteArray) (p:Nat × ByteArray) (n:Nat):List ByteArray:=l.set p.1 (putAt p.2 (l.getD p.1 ByteArray.empty) n)
def layK (f:Nat->Nat) (l:List ByteArray) (ps:List (Nat × ByteArray)):Nat->List ByteArray
 | 0=>l
 | k+1=>Zrc (layK f l ps k) (ps.getD k nop) (f k)

def all32 (_:Nat):Nat:=32

def Zpw (d:D):D:={ d with last:=layK all32 d.last d.wait d.wait.length,wait:=[] }
def latK (i:Nat) (s0:ByteArray) (ps:List (Nat × ByteArray)):Nat->ByteArray
 | 0=>s0
 | k+1=>if (ps.getD k nop).1=i then (ps.getD k nop).2 else latK i s0 ps k
def latest (d:D) (i:Nat):ByteArray:=latK i (d.last.getD i ByteArray.empty) d.wait d.wait.length
def hasB (d:D) (i:Int):Bool:=decide (d.down=false/\0<=i/\i < (d.last.length:Int))
def readD (d:D) (i:Int):ByteArray × Bool:=if hasB d i=true then (latest d i.toNat,true) else (ByteArray.empty,false)
def Zel (d:D) (i:Int) (b:ByteArray):D × Bool :=
 if hasB d i=true/\b.size=32 then
  ({ d with wait:=d.wait++[(i.toNat,b)],arm:=d.arm - 1,down:=decide (d.arm=1) },!decide (d.arm=1))
 else (d,false)
def Zf7 (d:D):D × Bool:=if d.down=true then (d,false) else (Zpw d,true)
theorem hasB_yes {d:D} {i:Int} (h:hasB d i=true):d.down=false/\0<=i/\i < (d.last.length:Int):=by simpa [hasB] using h
theorem hasB_no {d:D} {i:Int} (h:¬ hasB d i=true):d.down=true \/ i < 0 \/ (d.last.length:Int)<=i:=by
 simp only [hasB,decide_eq_true_eq] at h
 by_cases h1:d.down=true
 ·exact .inl h1
 ·have:d.down=false:=by simpa using h1
  by_cases h2:i < 0
  ·exact .inr (.inl h2)
  ·refine .inr (.inr ?_)
   rcases Int.lt_or_le i (d.last.length:Int) with h3 | h3
   ·exact absurd ⟨this,by omega,h3⟩ h
   ·exact h3

theorem Zm4 (f:Nat->Nat) (l:List ByteArray) (ps:List (Nat × ByteArray)) (k:Nat):(layK f l ps k).length=l.length:=by
 induction k with
 | zero=>rfl
 | succ k ih=>simp [layK,Zrc,ih]
theorem putAt_size {b ahead:ByteArray} {n:Nat} (hn:n<=32) (hb:b.size=32) (ha:ahead.size=32):(putAt b ahead n).size=32:=by
 unfold putAt
 rw [ByteArray.size_append,ByteArray.size_extract,ByteArray.size_extract]
 omega
theorem Zlj {α:Type} {xs:List α} {i:Nat} {d:α} (h:i < xs.length):xs.getD i d ∈ xs:=by simp [List.getD,h]
theorem layK_sizes {f:Nat->Nat} {l:List ByteArray} {ps:List (Nat × ByteArray)} (hf:∀ k,f k<=32) (hl:∀ s ∈ l,s.size=32) (hp:∀ p ∈ ps,p.1 < l.length/\p.2.size=32) (k:Nat) (hk:k<=ps.length) :
  ∀ s ∈ layK f l ps k,s.size=32:=by
 induction k with
 | zero=>exact hl
 | succ k ih =>
  intro s hs
  have hpk:=hp _ (Zlj (d:=nop) (show k < ps.length by omega))
  rcases List.mem_or_eq_of_mem_set hs with h | rfl
  ·exact ih (by omega) s h
  ·exact putAt_size (hf k) hpk.2 (ih (by omega) _ (Zlj (by rw [Zm4];exact hpk.1)))


end Go.Proofs.YtpnegheknjeljaaGreat.dsk
