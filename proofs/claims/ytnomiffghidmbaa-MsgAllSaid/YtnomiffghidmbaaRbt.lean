/- Texts joined. -/
import Derived.Test.YtnomiffghidmbaaCmp
import Derived.Test.YtnomiffghidmbaaCrcMath
section
/- Texts joined. -/
section
/- Texts joined. -/
section
/- Numbers as bytes (reckoning alone). -/
namespace Go.Proofs.Ytnomiffghidmbaa.ima
open Go Go.RowKit eng fil
set_option linter.unusedVariables false
set_option linter.unusedSimpArgs false
set_option maxRecDepth 100000

def byt (v:Int) (i:Nat):UInt8:=UInt8.ofNat (v / 256 ^ i % 256).toNat
def low (v:Int):Nat->List UInt8
 | 0=>[]
 | n+1=>byt v n :: low v n
def num (l:List UInt8):Int:=l.foldl (fun a b=>a * 256+(b.toNat:Int)) 0
@[simp] theorem Zfn (v:Int):∀ n,(low v n).length=n
 | 0=>rfl
 | n+1=>by simp [low,Zfn v n]
theorem byt_nat (v:Int) (i:Nat):((byt v i).toNat:Int)=v / 256 ^ i % 256:=by
 unfold byt
 rw [UInt8.toNat_ofNat']
 omega
theorem foldl_num (l:List UInt8):∀ a:Int,l.foldl (fun a b=>a * 256+(b.toNat:Int)) a=a * 256 ^ l.length+num l:=by
 unfold num
 induction l with
 | nil=>intro a;simp
 | cons b l ih =>
  intro a
  simp only [List.foldl_cons,List.length_cons]
  rw [ih (a * 256+b.toNat),ih (0 * 256+(b.toNat:Int)),Int.pow_succ,Int.add_mul,Int.zero_mul,Int.zero_add,Int.mul_assoc,Int.mul_comm 256,Int.add_assoc]
theorem Zp0 (b:UInt8) (l:List UInt8):num (b :: l)=(b.toNat:Int) * 256 ^ l.length+num l:=by
 have:=foldl_num l (0 * 256+(b.toNat:Int))
 rw [Int.zero_mul,Int.zero_add] at this
 rw [<- this]
 show List.foldl _ (0 * 256+(b.toNat:Int)) l=_
 rw [Int.zero_mul,Int.zero_add]
theorem emod_two (v B:Int) (hB:0 < B):(v / B % 256) * B+v % B=v % (B * 256):=by
 have e1:=Int.emod_add_mul_ediv v B
 have e2:=Int.emod_add_mul_ediv (v / B) 256
 have r0:=Int.emod_nonneg v (by omega:B ≠ 0)
 have r1:=Int.emod_lt_of_pos v hB
 have s0:=Int.emod_nonneg (v / B) (by omega:(256:Int) ≠ 0)
 have s1:=Int.emod_lt_of_pos (v / B) (by omega:(0:Int) < 256)
 generalize v % B=r at *
 generalize v / B % 256=s at *
 generalize v / B / 256=q at *
 rw [<- e2] at e1
 have e3:v=(s * B+r)+B * 256 * q:=by
  rw [<- e1,Int.mul_add,Int.mul_comm B s,<- Int.mul_assoc]
  omega
 rw [e3,Int.add_mul_emod_self_left,Int.emod_eq_of_lt]
 ·exact Int.add_nonneg (Int.mul_nonneg s0 (by omega)) r0
 ·have:(s+1) * B<=256 * B:=Int.mul_le_mul_of_nonneg_right (by omega) (by omega)
  rw [Int.add_mul,Int.one_mul,Int.mul_comm 256 B] at this
  omega
theorem num_low (v:Int):∀ n,num (low v n)=v % 256 ^ n
 | 0=>by simp [low,num]
 | n+1=>by
  rw [low,Zp0,Zfn,num_low v n,byt_nat,Int.pow_succ]
  exact emod_two v (256 ^ n) (Int.pow_pos (by omega))
theorem Zli {v:Int} {n:Nat} (h0:0<=v) (h1:v < 256 ^ n):num (low v n)=v:=by
 rw [num_low,Int.emod_eq_of_lt h0 h1]
theorem num_snoc (l:List UInt8) (b:UInt8):num (l++[b])=num l * 256+(b.toNat:Int):=by simp [num]
theorem Ziw (l:List UInt8):0<=num l:=by
 induction l with
 | nil=>simp [num]
 | cons b l ih =>
  rw [Zp0]
  have:(0:Int)<=(b.toNat:Int) * 256 ^ l.length:=Int.mul_nonneg (by omega) (Int.le_of_lt (Int.pow_pos (by omega)))
  omega
theorem Zuo (l:List UInt8):num l < 256 ^ l.length:=by
 induction l with
 | nil=>simp [num]
 | cons b l ih =>
  rw [Zp0,List.length_cons,Int.pow_succ]
  have hb:=b.toNat_lt
  have:((b.toNat:Int)+1) * 256 ^ l.length<=256 * 256 ^ l.length:=Int.mul_le_mul_of_nonneg_right (by omega) (Int.le_of_lt (Int.pow_pos (by omega)))
  rw [Int.add_mul,Int.one_mul,Int.mul_comm 256] at this
  omega

end Go.Proofs.Ytnomiffghidmbaa.ima
end
section
/- Messages as bytes: reckoning alone, no program. -/
namespace Go.Proofs.Ytnomiffghidmbaa.msm
open Go Go.RowKit eng fil ima
set_option linter.unusedVariables false
set_option linter.unusedSimpArgs false

def lst (a:ByteArray):List UInt8:=a.data.toList
def ofL (l:List UInt8):ByteArray:=⟨l.toArray⟩
theorem lst_length (a:ByteArray):(lst a).length=a.size:=rfl
theorem ofL_lst (a:ByteArray):ofL (lst a)=a:=by
 obtain ⟨⟨l⟩⟩:=a;rfl
def tx (a:ByteArray):List UInt8:=UInt8.ofNat a.size :: lst a
theorem Znk (a:ByteArray):(tx a).length=a.size+1:=by simp [tx,lst_length]
abbrev WrM:=Int × ByteArray
structure AskM where
 kind:Int
 frm:Int
 epoch:Int
 seq:Int
 name:ByteArray
 file:Int
 mode:Int
 writes:List WrM
deriving DecidableEq
structure TellM where
 kind:Int
 to:Int
 epoch:Int
 seq:Int
 err:Int
 file:Int
 mode:Int
 ver:Int
 body:ByteArray
deriving DecidableEq
def numB (n least:Int):Bool:=decide (least<=n/\n<=1073741824)
def Zia (s:ByteArray):Bool:=decide (1<=s.size/\s.size<=8) && (lst s).all fun b=>decide (33<=b.toNat/\b.toNat<=126)
def okWr (w:WrM):Bool:=decide (0<=w.1/\w.1 < 24/\1<=w.2.size/\(w.2.size:Int)<=24 - w.1)
def e0:ByteArray:=⟨#[]⟩
def mayA (a : AskM) : Bool :=
  decide (1 <= a.kind /\ a.kind <= 5 /\ 1 <= a.frm /\ a.frm <= 3) && numB a.epoch 0 && numB a.seq 1 &&
  (if a.kind = 1 then Zia a.name && decide (a.file = 0 /\ a.mode = 0 /\ a.writes = [])
   else decide (a.name = e0) && decide (1 <= a.file /\ a.file <= 6) &&
    (if a.kind = 2 then decide ((a.mode = 1 \/ a.mode = 2) /\ a.writes = [])
     else decide (a.mode = 0) && (if a.kind = 5 then decide (a.writes = []) else decide (a.writes.length <= 5) && decide (0 < a.writes.length \/ a.kind = 4) && a.writes.all okWr)))
def mayT (t : TellM) : Bool :=
  decide (1 <= t.kind /\ t.kind <= 3 /\ 1 <= t.to /\ t.to <= 3) && numB t.epoch 0 &&
  (if t.kind = 1 then numB t.seq 1 && decide (0 <= t.err /\ t.err <= 7 /\ 0 <= t.file /\ t.file <= 6 /\ 0 <= t.mode /\ t.mode <= 2) && numB t.ver 0 && decide (t.body.size <= 24)
   else decide (t.seq = 0 /\ t.err = 0 /\ t.mode = 0 /\ t.ver = 0 /\ t.body = e0) && (if t.kind = 2 then decide (1 <= t.file /\ t.file <= 6) else decide (t.file = 0)))
def wrB (w:WrM):List UInt8:=low w.1 1++tx w.2
def askB (a:AskM):List UInt8:=low a.kind 1++(low a.frm 1++(low a.epoch 4++(low a.seq 4++(tx a.name++(low a.file 1++(low a.mode 1++(low a.writes.length 1++(a.writes.map wrB).flatten)))))))
def tellB (t:TellM):List UInt8:=low t.kind 1++(low t.to 1++(low t.epoch 4++(low t.seq 4++(low t.err 1++(low t.file 1++(low t.mode 1++(low t.ver 4++tx t.body)))))))
def crcB (l:List UInt8):Nat:=crc.cSum 0 (l.map UInt8.toNat)
def sealB (l:List UInt8):List UInt8:=l++low (crcB l:Int) 2
def putA (a:AskM):List UInt8:=if mayA a then sealB (askB a) else []
def putT (t:TellM):List UInt8:=if mayT t then sealB (tellB t) else []

abbrev Rd:=List UInt8 × Bool
def rdN (s:Rd) (n:Nat):Int × Rd:=if s.2=true \/ s.1.length < n then (0,(s.1,true)) else (num (s.1.take n),(s.1.drop n,false))
def rdT (s:Rd):ByteArray × Rd:=if s.2=true \/ s.1.length < 1 \/ s.1.length - 1 < (s.1.getD 0 0).toNat then (e0,(s.1,true)) else (ofL ((s.1.drop 1).take (s.1.getD 0 0).toNat),(s.1.drop ((s.1.getD 0 0).toNat+1),false))
def rdW:Nat->Rd->List WrM × Rd
 | 0,s=>([],s)
 | n+1,s=>if s.2=true then ([],s) else
  (((rdN s 1).1,(rdT (rdN s 1).2).1) :: (rdW n (rdT (rdN s 1).2).2).1,(rdW n (rdT (rdN s 1).2).2).2)
theorem Zc1 {v:Int} {n:Nat} (h0:0<=v) (h1:v < 256 ^ n) (r:List UInt8):rdN (low v n++r,false) n=(v,(r,false)):=by
 have hl:(low v n++r).length=n+r.length:=by simp
 unfold rdN
 rw [if_neg (by simp)]
 rw [List.take_append_of_le_length (by simp),List.take_of_length_le (by simp),Zli h0 h1,List.drop_append,List.drop_eq_nil_of_le (by simp)]
 simp
theorem Zvs {a:ByteArray} (h:a.size<=255) (r:List UInt8):rdT (tx a++r,false)=(a,(r,false)):=by
 have hb:(UInt8.ofNat a.size).toNat=a.size:=by rw [UInt8.toNat_ofNat'];omega
 have hl:=lst_length a
 unfold rdT tx
 simp only [List.cons_append,List.getD_cons_zero,hb,List.length_cons,List.length_append,List.drop_succ_cons,List.drop_zero,Bool.false_eq_true,false_or]
 rw [if_neg (by omega)]
 rw [List.take_append_of_le_length (by omega),List.take_of_length_le (by omega),ofL_lst,List.drop_append,List.drop_eq_nil_of_le (by omega),hl]
 simp
theorem Zmu {w:WrM} (h:okWr w=true):0<=w.1/\w.1 < 24/\1<=w.2.size/\w.2.size<=24:=by
 have:=of_decide_eq_true h
 exact ⟨this.1,this.2.1,this.2.2.1,by omega⟩
theorem rdW_wr:∀ (l:List WrM),(∀ w ∈ l,okWr w=true)->∀ r:List UInt8,rdW l.length ((l.map wrB).flatten++r,false)=(l,(r,false))
 | [],_,r=>by simp [rdW]
 | w :: l,h,r=>by
  obtain ⟨h1,h2,h3,h4⟩:=Zmu (h w (by simp))
  have e1:((w :: l).map wrB).flatten++r=low w.1 1++(tx w.2++((l.map wrB).flatten++r)):=by simp [wrB]
  rw [e1,List.length_cons,rdW,if_neg (by simp),Zc1 h1 (by omega),Zvs (by omega),rdW_wr l (fun x hx=>h x (by simp [hx])) r]
def Zbv (b:List UInt8):AskM × Rd :=
 let k:=rdN (b,false) 1;let f:=rdN k.2 1;let e:=rdN f.2 4;let s:=rdN e.2 4;let n:=rdT s.2;let i:=rdN n.2 1;let m:=rdN i.2 1;let c:=rdN m.2 1
 let w:=rdW c.1.toNat c.2
 (⟨k.1,f.1,e.1,s.1,n.1,i.1,m.1,w.1⟩,w.2)
def Zb1 (b:List UInt8):TellM × Rd :=
 let k:=rdN (b,false) 1;let f:=rdN k.2 1;let e:=rdN f.2 4;let s:=rdN e.2 4;let r:=rdN s.2 1;let i:=rdN r.2 1;let m:=rdN i.2 1;let v:=rdN m.2 4;let x:=rdT v.2
 (⟨k.1,f.1,e.1,s.1,r.1,i.1,m.1,v.1,x.1⟩,x.2)
structure Fit (a:AskM):Prop where
 kind:0<=a.kind/\a.kind < 256
 frm:0<=a.frm/\a.frm < 256
 epoch:0<=a.epoch/\a.epoch < 4294967296
 seq:0<=a.seq/\a.seq < 4294967296
 name:a.name.size<=255
 file:0<=a.file/\a.file < 256
 mode:0<=a.mode/\a.mode < 256
 len:a.writes.length<=5
 wr:∀ w ∈ a.writes,okWr w=true
theorem Zp1 {a:AskM} (h:mayA a=true):Fit a:=by
 simp only [mayA,numB,Bool.and_eq_true,decide_eq_true_eq] at h
 obtain ⟨⟨⟨⟨h1,h2,h3,h4⟩,h5,h6⟩,h7,h8⟩,h9⟩:=h
 by_cases k1:a.kind=1
 ·rw [if_pos k1] at h9
  simp only [Zia,Bool.and_eq_true,decide_eq_true_eq] at h9
  obtain ⟨⟨⟨n1,n2⟩,_⟩,f1,f2,f3⟩:=h9
  exact ⟨by omega,by omega,by omega,by omega,by omega,by omega,by omega,by simp [f3],by simp [f3]⟩
 ·rw [if_neg k1] at h9
  simp only [Bool.and_eq_true,decide_eq_true_eq] at h9
  obtain ⟨⟨n1,f1,f2⟩,h9⟩:=h9
  have hn:a.name.size<=255:=by rw [n1];decide
  by_cases k2:a.kind=2
  ·rw [if_pos k2] at h9
   obtain ⟨m,w⟩:=of_decide_eq_true h9
   exact ⟨by omega,by omega,by omega,by omega,hn,by omega,by omega,by simp [w],by simp [w]⟩
  ·rw [if_neg k2] at h9
   simp only [Bool.and_eq_true,decide_eq_true_eq] at h9
   obtain ⟨m,h9⟩:=h9
   by_cases k5:a.kind=5
   ·rw [if_pos k5] at h9
    have w:=of_decide_eq_true h9
    exact ⟨by omega,by omega,by omega,by omega,hn,by omega,by omega,by simp [w],by simp [w]⟩
   ·rw [if_neg k5] at h9
    simp only [Bool.and_eq_true,decide_eq_true_eq,List.all_eq_true] at h9
    exact ⟨by omega,by omega,by omega,by omega,hn,by omega,by omega,h9.1.1,h9.2⟩
theorem parse_ask {a:AskM} (h:Fit a) (r:List UInt8):Zbv (askB a++r)=(a,(r,false)):=by
 have hl:((a.writes.length:Int)).toNat=a.writes.length:=by omega
 have h5:=h.len
 unfold Zbv askB
 simp only [List.append_assoc]
 rw [Zc1 h.kind.1 (by have:=h.kind.2;omega)]
 simp only
 rw [Zc1 h.frm.1 (by have:=h.frm.2;omega)]
 simp only
 rw [Zc1 h.epoch.1 (by have:=h.epoch.2;omega)]
 simp only
 rw [Zc1 h.seq.1 (by have:=h.seq.2;omega)]
 simp only
 rw [Zvs h.name]
 simp only
 rw [Zc1 h.file.1 (by have:=h.file.2;omega)]
 simp only
 rw [Zc1 h.mode.1 (by have:=h.mode.2;omega)]
 simp only
 rw [Zc1 (by omega) (by omega)]
 simp only
 rw [hl,rdW_wr a.writes h.wr r]
structure FitT (t:TellM):Prop where
 kind:0<=t.kind/\t.kind < 256
 to:0<=t.to/\t.to < 256
 epoch:0<=t.epoch/\t.epoch < 4294967296
 seq:0<=t.seq/\t.seq < 4294967296
 err:0<=t.err/\t.err < 256
 file:0<=t.file/\t.file < 256
 mode:0<=t.mode/\t.mode < 256
 ver:0<=t.ver/\t.ver < 4294967296
 body:t.body.size<=255
theorem may_fitT {t:TellM} (h:mayT t=true):FitT t:=by
 simp only [mayT,numB,Bool.and_eq_true,decide_eq_true_eq] at h
 obtain ⟨⟨⟨h1,h2,h3,h4⟩,h5,h6⟩,h9⟩:=h
 by_cases k1:t.kind=1
 ·rw [if_pos k1] at h9
  simp only [Bool.and_eq_true,decide_eq_true_eq] at h9
  obtain ⟨⟨⟨s,e⟩,v⟩,b⟩:=h9
  exact ⟨by omega,by omega,by omega,by omega,by omega,by omega,by omega,by omega,by omega⟩
 ·rw [if_neg k1] at h9
  simp only [Bool.and_eq_true,decide_eq_true_eq] at h9
  obtain ⟨⟨s,e,m,v,b⟩,h9⟩:=h9
  have hb:t.body.size<=255:=by rw [b];decide
  by_cases k2:t.kind=2
  ·rw [if_pos k2] at h9
   have:=of_decide_eq_true h9
   exact ⟨by omega,by omega,by omega,by omega,by omega,by omega,by omega,by omega,hb⟩
  ·rw [if_neg k2] at h9
   have:=of_decide_eq_true h9
   exact ⟨by omega,by omega,by omega,by omega,by omega,by omega,by omega,by omega,hb⟩
theorem parse_tell {t:TellM} (h:FitT t) (r:List UInt8):Zb1 (tellB t++r)=(t,(r,false)):=by
 unfold Zb1 tellB
 simp only [List.append_assoc]
 rw [Zc1 h.kind.1 (by have:=h.kind.2;omega)]
 simp only
 rw [Zc1 h.to.1 (by have:=h.to.2;omega)]
 simp only
 rw [Zc1 h.epoch.1 (by have:=h.epoch.2;omega)]
 simp only
 rw [Zc1 h.seq.1 (by have:=h.seq.2;omega)]
 simp only
 rw [Zc1 h.err.1 (by have:=h.err.2;omega)]
 simp only
 rw [Zc1 h.file.1 (by have:=h.file.2;omega)]
 simp only
 rw [Zc1 h.mode.1 (by have:=h.mode.2;omega)]
 simp only
 rw [Zc1 h.ver.1 (by have:=h.ver.2;omega)]
 simp only
 rw [Zvs h.body]
def takeA (b:List UInt8):Option AskM:=if (Zbv b).2.2=true \/ mayA (Zbv b).1=false \/ putA (Zbv b).1 ≠ b then none else some (Zbv b).1
def takeT (b:List UInt8):Option TellM:=if (Zb1 b).2.2=true \/ mayT (Zb1 b).1=false \/ putT (Zb1 b).1 ≠ b then none else some (Zb1 b).1
theorem Zpv {a:AskM} (h:mayA a=true):putA a=sealB (askB a):=by rw [putA,if_pos h]
theorem putT_may {t:TellM} (h:mayT t=true):putT t=sealB (tellB t):=by rw [putT,if_pos h]
theorem Zlh {a:AskM} (h:mayA a=true) (r:List UInt8):Zbv (putA a++r)=(a,(low (crcB (askB a):Int) 2++r,false)):=by
 rw [Zpv h,sealB,List.append_assoc,parse_ask (Zp1 h)]
theorem Zlg {t:TellM} (h:mayT t=true) (r:List UInt8):Zb1 (putT t++r)=(t,(low (crcB (tellB t):Int) 2++r,false)):=by
 rw [putT_may h,sealB,List.append_assoc,parse_tell (may_fitT h)]
theorem Zlf {b:List UInt8} {a:AskM}:takeA b=some a ↔ mayA a=true/\putA a=b:=by
 unfold takeA
 constructor
 ·intro h
  split at h
  ·cases h
  ·rename_i hn
   cases h
   simp only [not_or,Bool.not_eq_true,ne_eq,Decidable.not_not] at hn
   exact ⟨by simpa using hn.2.1,hn.2.2⟩
 ·rintro ⟨hm,rfl⟩
  have:=Zlh hm []
  rw [List.append_nil] at this
  rw [this]
  simp [hm]
theorem takeT_some {b:List UInt8} {t:TellM}:takeT b=some t ↔ mayT t=true/\putT t=b:=by
 unfold takeT
 constructor
 ·intro h
  split at h
  ·cases h
  ·rename_i hn
   cases h
   simp only [not_or,Bool.not_eq_true,ne_eq,Decidable.not_not] at hn
   exact ⟨by simpa using hn.2.1,hn.2.2⟩
 ·rintro ⟨hm,rfl⟩
  have:=Zlg hm []
  rw [List.append_nil] at this
  rw [this]
  simp [hm]
theorem frontA {a c:AskM} (ha:mayA a=true) (hc:mayA c=true) {r s:List UInt8} (h:putA a++r=putA c++s):a=c/\r=s:=by
 have h1:=Zlh ha r
 have h2:=Zlh hc s
 rw [h,h2] at h1
 have hac:a=c:=(Prod.ext_iff.1 h1).1.symm
 subst hac
 exact ⟨rfl,List.append_cancel_left h⟩
theorem frontT {a c:TellM} (ha:mayT a=true) (hc:mayT c=true) {r s:List UInt8} (h:putT a++r=putT c++s):a=c/\r=s:=by
 have h1:=Zlg ha r
 have h2:=Zlg hc s
 rw [h,h2] at h1
 have hac:a=c:=(Prod.ext_iff.1 h1).1.symm
 subst hac
 exact ⟨rfl,List.append_cancel_left h⟩
theorem cutA {a:AskM} (ha:mayA a=true) {k:Nat} (hk:k < (putA a).length):takeA ((putA a).take k)=none:=by
 cases h:takeA ((putA a).take k) with
 | none=>rfl
 | some c =>
  obtain ⟨hc,he⟩:=Zlf.1 h
  have:=frontA hc ha (r:=(putA a).drop k) (s:=[]) (by rw [he,List.take_append_drop,List.append_nil])
  have h2:=this.2
  rw [List.drop_eq_nil_iff] at h2
  omega
theorem cutT {a:TellM} (ha:mayT a=true) {k:Nat} (hk:k < (putT a).length):takeT ((putT a).take k)=none:=by
 cases h:takeT ((putT a).take k) with
 | none=>rfl
 | some c =>
  obtain ⟨hc,he⟩:=takeT_some.1 h
  have:=frontT hc ha (r:=(putT a).drop k) (s:=[]) (by rw [he,List.take_append_drop,List.append_nil])
  have h2:=this.2
  rw [List.drop_eq_nil_iff] at h2
  omega
theorem Zll (l:List UInt8):crcB l < 65536:=crc.cSum_lt _ (by decide) fun z hz=>by
 obtain ⟨b,_,rfl⟩:=List.mem_map.1 hz
 exact b.toNat_lt
theorem seal_last {l m:List UInt8} (hl:l.length=m.length) (h:low (crcB l:Int) 2=low (crcB m:Int) 2):crcB l=crcB m:=by
 have h1:=Zll l
 have h2:=Zll m
 have e1:num (low (crcB l:Int) 2)=(crcB l:Int):=Zli (by omega) (by omega)
 have e2:num (low (crcB m:Int) 2)=(crcB m:Int):=Zli (by omega) (by omega)
 rw [h,e2] at e1
 omega
theorem set_xor (l:List Nat) (k:Nat) (hk:k < l.length) (d:Nat):List.zipWith (· ^^^ ·) l (List.replicate k 0++[d]++List.replicate (l.length - k - 1) 0)=l.set k (l[k] ^^^ d):=by
 apply List.ext_getElem?
 intro i
 rw [List.getElem?_set,List.getElem?_zipWith]
 by_cases hi:i < l.length
 ·rw [List.getElem?_eq_getElem hi]
  by_cases h1:i < k
  ·rw [List.append_assoc,List.getElem?_append_left (by simpa using h1),List.getElem?_replicate,if_pos h1,if_neg (by omega)]
   simp
  ·by_cases h2:i=k
   ·subst h2
    rw [List.append_assoc,List.getElem?_append_right (by simp),if_pos rfl]
    simp [hk]
   ·have hn:(List.replicate k 0++[d]).length=k+1:=by simp
    rw [List.getElem?_append_right (by rw [hn];omega),hn,List.getElem?_replicate,if_pos (by omega),if_neg (fun e=>h2 e.symm)]
    simp
 ·rw [List.getElem?_eq_none (by omega),if_neg (by omega)]
theorem crc_turned (l:List UInt8) (k:Nat) (hk:k < l.length) (d:UInt8) (hd:d ≠ 0):crcB (l.set k (l[k] ^^^ d)) ≠ crcB l:=by
 have hd0:d.toNat ≠ 0:=fun h=>hd (UInt8.toNat_inj.1 (by simpa using h))
 have h1:crc.cSum 0 [d.toNat] ≠ 0:=by
  intro e
  have:crc.cBits 8 (0 ^^^ d.toNat)=0:=e
  rw [Nat.zero_xor] at this
  exact hd0 (crc.cBits_zero 8 (by have:=d.toNat_lt;omega) this)
 have:=crc.sum_turned (l.map UInt8.toNat) k [d.toNat] (by simp;omega) h1 (by simp;exact d.toNat_lt)
 simp only [List.length_map,List.length_singleton] at this
 have hs:=set_xor (l.map UInt8.toNat) k (by simpa using hk) d.toNat
 simp only [List.length_map] at hs
 rw [hs] at this
 unfold crcB
 rw [List.map_set]
 have hg:(l.map UInt8.toNat)[k]'(by simpa using hk) ^^^ d.toNat=(l[k] ^^^ d).toNat:=by simp [UInt8.toNat_xor]
 rw [<- hg]
 exact this
theorem seal_turned {l m:List UInt8} {k:Nat} (hk:k < (sealB l).length) {d:UInt8} (hd:d ≠ 0) (h:sealB m=(sealB l).set k ((sealB l)[k] ^^^ d)):False:=by
 have hlen:m.length=l.length:=by
  have:=congrArg List.length h
  simp only [sealB,List.length_append,Zfn,List.length_set] at this
  omega
 have hx:∀ x:UInt8,x ^^^ d ≠ x:=fun x e=>hd (by
  have:x ^^^ (x ^^^ d)=x ^^^ x:=by rw [e]
  rwa [<- UInt8.xor_assoc,UInt8.xor_self,UInt8.zero_xor] at this)
 by_cases hkl:k < l.length
 ·have hg:(sealB l)[k]=l[k]:=by simp only [sealB];rw [List.getElem_append_left hkl]
  rw [hg,sealB,sealB,List.set_append_left _ _ hkl] at h
  obtain ⟨e1,e2⟩:=List.append_inj h (by simpa using hlen)
  have:=seal_last hlen e2
  rw [e1] at this
  exact crc_turned l k hkl d hd this
 ·have hk2:k - l.length < (low (crcB l:Int) 2).length:=by
   simp only [sealB,List.length_append,Zfn] at hk
   simp only [Zfn]
   omega
  have hg:(sealB l)[k]=(low (crcB l:Int) 2)[k - l.length]:=by simp only [sealB];rw [List.getElem_append_right (by omega)]
  rw [hg,sealB,sealB,List.set_append_right _ _ (by omega)] at h
  obtain ⟨e1,e2⟩:=List.append_inj h (by simpa using hlen)
  subst e1
  have this:(low (crcB m:Int) 2)[k - m.length]?=((low (crcB m:Int) 2).set (k - m.length) ((low (crcB m:Int) 2)[k - m.length] ^^^ d))[k - m.length]?:=by rw [<- e2]
  rw [List.getElem?_set_self (by simpa using hk2),List.getElem?_eq_getElem hk2] at this
  exact hx _ (Option.some.inj this).symm
theorem seal_turned' {l m:List UInt8} {P:List UInt8} (hP:P=sealB l) {k:Nat} (hk:k < P.length) {d:UInt8} (hd:d ≠ 0) (h:sealB m=P.set k (P[k] ^^^ d)):False:=by
 subst hP
 exact seal_turned hk hd h
theorem turnA {a:AskM} (ha:mayA a=true) {k:Nat} (hk:k < (putA a).length) {d:UInt8} (hd:d ≠ 0):takeA ((putA a).set k ((putA a)[k] ^^^ d))=none:=by
 cases h:takeA ((putA a).set k ((putA a)[k] ^^^ d)) with
 | none=>rfl
 | some c =>
  obtain ⟨hc,he⟩:=Zlf.1 h
  exfalso
  rw [Zpv hc] at he
  exact seal_turned' (Zpv ha) hk hd he
end Go.Proofs.Ytnomiffghidmbaa.msm
end
end
section
/- Texts joined. -/
section
/- Numbers and texts as bytes (package bits), put: told. -/
namespace Go.Proofs.Ytnomiffghidmbaa.bip
open Go Go.RowKit eng SX Fact fil ima symD
set_option linter.unusedVariables false
set_option linter.unusedSimpArgs false
set_option maxRecDepth 1000000

def isApp:Op->Bool | .call { callee:=.builtin .append,.. }=>true | .makeSlice ..=>true | _=>false
def hApp (_:FuncId) (o:Oper):Option Hint:=cond (isApp o.op) (some .own) none
def ELow (k:Nat):FnE:={ k:=k,ins:=[none,none],leaks:=[false,false],outs:=[none],kinds:=[.own 5 1 true] }
noncomputable def flL:=flat (Zam Try.prog 89)
noncomputable def lpL:=flat (Zaq (nth flL 5))
def shL0:Shape:=⟨[(0,.leaf),(1,.leaf)],[],[none,none],33,89⟩
def shL1:Shape:=⟨[(0,.leaf),(1,.leaf),(5,.own 0 4 1),(16,.leaf),(17,.leaf)],[brow 4],[none,none,none,none],33,89⟩
def shLN:Shape:=⟨[(4,.nil)],[],[],33,89⟩
def shLR:Shape:=⟨[(4,.own 0 0 1)],[brow 0],[],33,89⟩
@[simp] def zBip1:SX:=.op (Op.binOp .shr 3 (Operand.tmp 25) (Operand.tmp 27) 3) 3 [25,27] [.var 0,.bin .mul (.con (.int .i64 8)) (.var 3)]
@[simp] def zBip2:SX:=.bin .sub (.bin .sub (.var 1) (.con (.int .i64 1))) (.var 3)
@[simp] def zBip3:SX:=.bin .lss (.var 1) (.con (.int .i64 1))
@[simp] def zBip4:SX:=rop (ROp.rep [.int .u8 0]) [.var 1]
@[simp] def zBip5:SX:=.bin .gtr (.var 1) (.con (.int .i64 8))
@[simp] def zBip6:SX:=.bin .add (.var 3) (.con (.int .i64 1))
@[simp] def zBip7:SX:=.bin .lss (.var 3) (.var 2)
theorem ln1:segTo Try.prog fil.noOrc 10000 flL shL0 [1] shLN [] hApp=some (.ret,[.ok zBip3,.is zBip3 (.bool true)],[]):=by kernel_rfl
theorem ln2:segTo Try.prog fil.noOrc 10000 flL shL0 [0,1] shLN [] hApp=some (.ret,[.ok zBip3,.is zBip3 (.bool false),.ok zBip5,.is zBip5 (.bool true)],[]):=by kernel_rfl
theorem lpre:segTo Try.prog fil.noOrc 10000 (flL.take 5) shL0 [0,0] shL1 [(0,0)] hApp=some (.normal,[.ok zBip3,.is zBip3 (.bool false),.ok zBip5,.is zBip5 (.bool false),same (.var 1) (.var 1),upto (.var 1) 4294967296,.ok (.var 0),.ok (.var 1),.ok (.len zBip4),.ok (.con (.int .i64 0)),same (.len zBip4) (.len zBip4)],[.var 0,.var 1,.len zBip4,.con (.int .i64 0),zBip4]):=by kernel_rfl
theorem lx:segTo Try.prog fil.noOrc 10000 lpL shL1 [0] shL1 [(0,0)] hApp=some (.exit 0,[.ok zBip7,.is zBip7 (.bool false),.ok (.var 0),.ok (.var 1),.ok (.var 2),.ok (.var 3),same (.len (.var 4)) (.len (.var 4))],[.var 0,.var 1,.var 2,.var 3,.var 4]):=by kernel_rfl
theorem lo:segTo Try.prog fil.noOrc 10000 lpL shL1 [1] shL1 [(0,0)] hApp=some (.normal,[.ok zBip7,.is zBip7 (.bool true),.ok (.bin .sub (.var 1) (.con (.int .i64 1))),.ok zBip2,.ok (.bin .mul (.con (.int .i64 8)) (.var 3)),.ok zBip1,.ok (.conv .u8 zBip1),rng zBip2 (.len (.var 4)),.idx (.var 4) zBip2 1 1,.ok zBip6,.ok (.var 0),.ok (.var 1),.ok (.var 2),.ok zBip6,same (.len (.var 4)) (.len (rop (ROp.upd 1 0) [.var 4,zBip2,.conv .u8 zBip1]))],[.var 0,.var 1,.var 2,zBip6,rop (ROp.upd 1 0) [.var 4,zBip2,.conv .u8 zBip1]]):=by kernel_rfl
theorem lpost:segTo Try.prog fil.noOrc 10000 (flL.drop 6) shL1 [] shLR [(0,0)] hApp=some (.ret,[same (.len (.var 4)) (.len (.var 4))],[.var 4]):=by kernel_rfl

theorem op_shr (v k:Int) (t t':TypeId) (a b:Nat) (hab:Nat.beq a b=false) (h0:0<=k) (h1:k < 64):opVal Try.prog (Op.binOp .shr t (Operand.tmp a) (Operand.tmp b) t) t' [a,b] [.int .i64 v,.int .i64 k]=some (.int .i64 (v / 2 ^ k.toNat)):=by
 have hb:Nat.beq b b=true:=Nat.beq_refl b
 have ha:Nat.beq a a=true:=Nat.beq_refl a
 have h2:min k.toNat 64=k.toNat:=by omega
 have h3:(0:Int)<=2 ^ k.toNat:=Int.pow_nonneg (by omega)
 simp only [opVal,Op.isSelect,cond_false,execOp,envR,lookT,ha,hab,hb,cond_true,eqGuard,binOp]
 simp [Zkx,Zkw,Zg2,Zg5,Op.shift,Int.not_lt.2 h0,IntKind.bits,h2,Int.fdiv_eq_ediv_of_nonneg _ h3]
def encY:Enc UInt8:={ sz:=1,enc:=fun b=>[.int .u8 b.toNat],len:=fun _=>rfl,one:=fun _ u hu=>by simp at hu;subst hu;rfl,pos:=by decide }
theorem Znu (l:List UInt8):pBy l=pRow encY l:=by
 have:∀ l:List UInt8,encY.all l=l.map fun b=>Value.int .u8 b.toNat:=fun l=>by
  induction l with
  | nil=>rfl
  | cons b l ih=>rw [Enc.all_cons,ih];rfl
 simp [pBy,pRow,this]
theorem pBy_inj {a b:List UInt8} (h:pBy a=pBy b):a=b:=by
 simp only [pBy,PV.row.injEq] at h
 apply List.ext_getElem h.1
 intro i h1 h2
 have:=congrArg (fun l=>l[i]?) h.2
 simp only [List.getElem?_map,List.getElem?_eq_getElem h1,List.getElem?_eq_getElem h2,Option.map_some,Option.some.injEq,PV.v.injEq,Value.int.injEq,true_and] at this
 exact UInt8.toNat_inj.1 (by omega)
theorem r_updY (l:List UInt8) (i:Nat) (k:IntKind) (b:UInt8) (z:Int) (hz:z=(b.toNat:Int)) (h:i < l.length):ropPV (.upd 1 0) [pBy l,.v (.int k (i:Int)),.v (.int .u8 z)]=some (pBy (l.set i b)):=by
 subst hz
 rw [Znu,Znu]
 exact r_updE encY l i k b h
theorem Zgp (l:List UInt8) (j sub:Nat) (k:IntKind) (h:j < l.length) (hs:sub<=1):IdxP (some (pBy l)) (some (.v (.int k (j:Int)))) 1 sub:=by
 rw [Znu]
 exact Zdk encY l j 1 sub k rfl h hs
theorem Zk5 (l:List UInt8) (hl:l.length<=1000000000):Zwe (some (pBy l)) 1:=by
 rw [Znu]
 exact cellsP_row encY l 1 rfl hl
def lowB (v n:Int):List UInt8:=if 1<=n/\n<=8 then low v n.toNat else []
def stepB (v:Int) (n i:Nat):List UInt8:=List.replicate (n - i) 0++low v i
theorem stepB_set (v:Int) {n i:Nat} (h:i < n):(stepB v n i).set (n - 1 - i) (byt v i)=stepB v n (i+1):=by
 unfold stepB
 rw [show n - i=(n - 1 - i)+1 by omega,show n - (i+1)=n - 1 - i by omega,List.replicate_succ',List.append_assoc,List.set_append_right _ _ (by simp)]
 simp [low]
theorem u8_byt (v:Int) (i:Nat):IntKind.u8.wrap (v / 2 ^ (8 * i))=((byt v i).toNat:Int):=by
 rw [byt_nat,show (2:Int) ^ (8 * i)=256 ^ i by rw [Int.pow_mul];rfl]
 exact IntKind.wrap_u8 _
def RLow (ps qs:List PV):Prop:=∃ v n:Int,ps=[pI v,pI n]/\qs=[pBy (lowB v n)]
theorem fLow:∀ ps q1 q2,RLow ps q1->RLow ps q2->q1=q2:=by
 rintro ps q1 q2 ⟨v,n,rfl,rfl⟩ ⟨v',n',h,rfl⟩
 simp only [List.cons.injEq,PV.v.injEq,Value.int.injEq,true_and,and_true] at h
 rw [h.1,h.2]
@[simp] theorem kLow (k:Nat):(ELow k).k=k:=rfl
theorem toldLow (k:Nat):ToldF 89 (ELow k) (spec RLow):=by
 refine Zg1 (fun _ _=>none) _ (Zam Try.prog 89) Try.func89 (by kernel_rfl) shL0 (by kernel_rfl) ?_ ?_
 ·intro ps qs h
  obtain ⟨v,n,rfl,rfl⟩:=Zag h
  exact Za7 rfl
 ·intro C ps qs hF h a w hsh
  obtain ⟨v,n,rfl,rfl⟩:=Zag h
  show wpL Try.prog flL _ a w
  by_cases h1:n < 1
  ·have hn:lowB v n=[]:=by rw [lowB,if_neg (by omega)]
   rw [hn,<- List.append_nil flL]
   refine Zad names_ok mixed_ok fil.noOrc_ok ln1 hsh ?_ (fun qs a1 w1 hq hx=>⟨nofun,fun _=>⟨.inr rfl,shLN,_,[SX.lit 0 []],[],hx,by kernel_rfl,rfl,by simp⟩⟩)
   simp [Zab,Zaa,Base.ev,SX.ev,evs,Value.oneCell',binPV,h1]
  by_cases h8:8 < n
  ·have hn:lowB v n=[]:=by rw [lowB,if_neg (by omega)]
   rw [hn,<- List.append_nil flL]
   refine Zad names_ok mixed_ok fil.noOrc_ok ln2 hsh ?_ (fun qs a1 w1 hq hx=>⟨nofun,fun _=>⟨.inr rfl,shLN,_,[SX.lit 0 []],[],hx,by kernel_rfl,rfl,by simp⟩⟩)
   simp [Zab,Zaa,Base.ev,SX.ev,evs,Value.oneCell',binPV,h1,h8]
  obtain ⟨m,rfl⟩:∃ m:Nat,n=(m:Int):=⟨n.toNat,by omega⟩
  have hm1:1<=m:=by omega
  have hm8:m<=8:=by omega
  rw [<- List.take_append_drop 5 flL]
  have rr:ropPV (.rep [.int .u8 0]) [pI (m:Int)]=some (pBy (stepB v m 0)):=by
   rw [r_rep _ (by omega)]
   simp [stepB,low]
  have rl:lenPV (pBy (stepB v m 0))=some (pI (m:Int)):=by rw [r_len];simp [stepB,low]
  refine Zad names_ok mixed_ok fil.noOrc_ok lpre hsh ?_ (fun qs a1 w1 hq hx=>⟨fun _=>?_,fun h=>absurd rfl h⟩)
  ·simp [Zab,Zaa,Base.ev,SX.ev,evs,Value.oneCell',binPV,h1,h8,rr,rl]
   all_goals omega
  simp [evs,SX.ev,rr,rl] at hq
  subst hq
  show wpL Try.prog (.block _ (.loop _) :: flL.drop 6) _ a1 w1
  refine Zbj (fun k a w=>∃ i:Nat,k=m - i/\i<=m/\Zah C shL1 [pI v,pI (m:Int),pI (m:Int),pI (i:Int),pBy (stepB v m i)] a w) ?_ (n:=m) ⟨0,by omega,by omega,hx⟩
  rintro k a w ⟨i,rfl,hi,hx⟩
  have hsl:(stepB v m i).length=m:=by simp [stepB];omega
  have rl1:lenPV (pBy (stepB v m i))=some (pI (m:Int)):=by rw [r_len,hsl]
  rw [<- List.append_nil (flat _)]
  by_cases hlt:i < m
  ·have g1:IntKind.i64.wrap ((m:Int) - 1)=(m:Int) - 1:=wrapI _ (by omega) (by omega)
   have g2:IntKind.i64.wrap ((m:Int) - 1 - (i:Int))=((m - 1 - i:Nat):Int):=by rw [wrapI _ (by omega) (by omega)];omega
   have g3:IntKind.i64.wrap (8 * (i:Int))=8 * (i:Int):=wrapI _ (by omega) (by omega)
   have g4:IntKind.i64.wrap ((i:Int)+1)=(i:Int)+1:=wrapI _ (by omega) (by omega)
   have os:=op_shr v (8 * (i:Int)) 3 3 25 27 rfl (by omega) (by omega)
   rw [show (8 * (i:Int)).toNat=8 * i by omega] at os
   have u:=u8_byt v i
   have ru:=r_updY (stepB v m i) (m - 1 - i) .i64 (byt v i) _ rfl (by omega)
   rw [stepB_set v hlt] at ru
   have ix:=Zgp (stepB v m i) (m - 1 - i) 1 .i64 (by omega) (by omega)
   have hsl2:(stepB v m (i+1)).length=m:=by simp [stepB];omega
   have rl2:lenPV (pBy (stepB v m (i+1)))=some (pI (m:Int)):=by rw [r_len,hsl2]
   refine Zad names_ok mixed_ok fil.noOrc_ok lo hx ?_ (fun qs a1 wd hq hx=>⟨fun _=>.inl ⟨rfl,m - (i+1),by omega,i+1,rfl,by omega,?_⟩,fun h=>absurd rfl h⟩)
   ·simp [Zab,Zaa,Base.ev,SX.ev,evs,Value.oneCell',binPV,Zay,Za8,PV.plain,g1,g2,g3,g4,os,u,ru,ix,rl1,rl2,hlt]
    all_goals omega
   ·simp [evs,SX.ev,binPV,Zay,Za8,PV.plain,g1,g2,g3,g4,os,u,ru] at hq
    subst hq
    exact hx
  ·obtain rfl:i=m:=by omega
   refine Zad names_ok mixed_ok fil.noOrc_ok lx hx ?_ (fun qs a1 wd hq hx=>⟨nofun,fun _=>.inr (.inl ⟨rfl,?_⟩)⟩)
   ·simp [Zab,Zaa,Base.ev,SX.ev,evs,Value.oneCell',binPV,rl1,Zjm]
   simp [evs,SX.ev] at hq
   subst hq
   rw [<- List.append_nil (flL.drop 6)]
   have hlow:lowB v (i:Int)=stepB v i i:=by rw [lowB,if_pos (by omega)];simp [stepB]
   refine Zad names_ok mixed_ok fil.noOrc_ok lpost hx ?_ (fun qs a1 wd hq hx=>⟨nofun,fun _=>⟨.inr rfl,shLR,_,[SX.var 0],[0],hx,by kernel_rfl,?_,?_⟩⟩)
   ·simp [Zab,Zaa,Base.ev,SX.ev,evs,Value.oneCell',rl1]
   ·simp [evs,SX.ev] at hq
    subst hq
    rw [hlow]
    rfl
   ·intro j hj
    simp at hj
    subst hj
    refine ⟨i - 1,(stepB v i i).map fun b=>PV.v (.int .u8 b.toNat),?_⟩
    rw [hlow]
    simp only [List.getElem?_cons_zero,pBy,hsl,Option.some.injEq,PV.row.injEq,and_true]
    omega

end Go.Proofs.Ytnomiffghidmbaa.bip
end
section
/- Numbers and texts as bytes (package bits), put: told, second part. -/
namespace Go.Proofs.Ytnomiffghidmbaa.bip
open Go Go.RowKit eng SX Fact fil ima symD
set_option linter.unusedVariables false
set_option linter.unusedSimpArgs false
set_option maxRecDepth 1000000

def EPuB (k:Nat):FnE:={ k:=k,ins:=[none,none,none],leaks:=[false,false,false],outs:=[none],kinds:=[.own 5 1 true] }
def ETxB (k:Nat):FnE:={ k:=k,ins:=[none,none],leaks:=[false,false],outs:=[none],kinds:=[.own 5 1 true] }
def EMsB (k:Nat):FnE:={ k:=k,ins:=[none],leaks:=[false],outs:=[none],kinds:=[.own 5 1 true] }
def tabB (f:FuncId):Option FnE:=cond (Nat.beq f 89) (some (ELow 1)) (cond (Nat.beq f 90) (some (EMsB 2)) none)
def bitsN:Nat->Nat->List Nat
 | 0,_=>[]
 | n+1,k=>k % 2 :: bitsN n (k / 2)
noncomputable def flPu:=flat (Zam Try.prog 76)
noncomputable def flMs:=flat (Zam Try.prog 90)
noncomputable def flTx:=flat (Zam Try.prog 77)
def shPu:Shape:=⟨[(0,.leaf),(1,.leaf),(2,.leaf)],[],[some false,none,none],13,76⟩
def shPuR:Shape:=⟨[(6,.own 0 0 1)],[brow 0],[],13,76⟩
def shMs:Shape:=⟨[(0,.leaf)],[],[none],12,90⟩
def shMsR:Shape:=⟨[(2,.own 0 0 1)],[brow 0],[],12,90⟩
def shTx:Shape:=⟨[(0,.leaf),(1,.leaf)],[],[some false,none],10,77⟩
def shTxR:Shape:=⟨[(4,.own 0 0 1)],[brow 0],[],10,77⟩
@[simp] def zBiq1:SX:=.bin .add (.con (.int .i64 0)) (.len (.var 0))
@[simp] def zBiq2:SX:=.bin .add zBiq1 (.len (.fn 1 [.var 1,.var 2] 0))
@[simp] def zBiq3:SX:=.con (.int .i64 0)
@[simp] def zBiq4:SX:=.bin .add zBiq1 (.len (.fn 2 [.var 1] 0))
@[simp] def zBiq5:SX:=rop ROp.cat [.lit 0 [],.var 0]
@[simp] def zBiq6:SX:=rop ROp.cat [.lit 1 [.conv .u8 (.slen (.var 0))],rop ROp.ofStr [.var 0]]
@[simp] def zBiq7:SX:=rop ROp.cat [zBiq5,.fn 1 [.var 1,.var 2] 0]
@[simp] def zBiq8:SX:=rop ROp.cat [zBiq5,.fn 2 [.var 1] 0]
@[simp] def zBiq9:SX:=.bin .sub zBiq2 zBiq3
@[simp] def Zo8:SX:=.bin .sub zBiq4 zBiq3
@[simp] def Zmn:SX:=.slen (.var 0)
@[simp] def Zvl:SX:=.len (.fn 1 [.var 1,.var 2] 0)
theorem ms:segTo Try.prog fil.noOrc 10000 flMs shMs [0] shMsR [(0,2)] hApp=some (.ret,[.ok Zmn,.ok (.bin .gtr Zmn (.con (.int .i64 255))),.is (.bin .gtr Zmn (.con (.int .i64 255))) (.bool false),.ok Zmn,.ok (.conv .u8 Zmn),.ok Zmn,same (.len (.lit 1 [.conv .u8 Zmn])) (.len (.lit 1 [.conv .u8 Zmn])),upto (.len zBiq6) 4294967296,same (.len zBiq6) (.len zBiq6)],[zBiq6]):=by kernel_rfl
theorem pu:segTo Try.prog (orcFn tabB) 10000 flPu shPu [1,0,0,0,1,1] shPuR [(3,3)] hApp=some (.ret,[.fn 89 (ELow 1) [.var 1,.var 2],rng zBiq3 Zvl,.ok (.len (.var 0)),.ok zBiq1,.ok (.bin .lss zBiq1 zBiq3),.is (.bin .lss zBiq1 zBiq3) (.bool false),.ok zBiq2,.ok (.bin .lss zBiq2 zBiq3),.is (.bin .lss zBiq2 zBiq3) (.bool false),.ok (.bin .lss zBiq2 zBiq3),.is (.bin .lss zBiq2 zBiq3) (.bool false),.ok zBiq9,.ok (.bin .gtr zBiq9 zBiq3),.is (.bin .gtr zBiq9 zBiq3) (.bool true),upto zBiq9 4294967296,rng zBiq3 (.len (rop (ROp.rep [.int .u8 0]) [zBiq9])),upto (.len (rop (ROp.rep [.int .u8 0]) [zBiq9])) 4294967296,cells (.var 0) 1,same zBiq3 (.len (.lit 0 [])),upto (.len zBiq5) 4294967296,same Zvl Zvl,same (.len zBiq5) (.len zBiq5),upto (.len zBiq7) 4294967296,same (.len zBiq7) (.len zBiq7)],[zBiq7]):=by kernel_rfl
theorem tx:segTo Try.prog (orcFn tabB) 10000 flTx shTx [1,0,0,0,1,1] shTxR [(3,3)] hApp=some (.ret,[.fn 90 (EMsB 2) [.var 1],rng zBiq3 (.len (.fn 2 [.var 1] 0)),.ok (.len (.var 0)),.ok zBiq1,.ok (.bin .lss zBiq1 zBiq3),.is (.bin .lss zBiq1 zBiq3) (.bool false),.ok zBiq4,.ok (.bin .lss zBiq4 zBiq3),.is (.bin .lss zBiq4 zBiq3) (.bool false),.ok (.bin .lss zBiq4 zBiq3),.is (.bin .lss zBiq4 zBiq3) (.bool false),.ok Zo8,.ok (.bin .gtr Zo8 zBiq3),.is (.bin .gtr Zo8 zBiq3) (.bool true),upto Zo8 4294967296,rng zBiq3 (.len (rop (ROp.rep [.int .u8 0]) [Zo8])),upto (.len (rop (ROp.rep [.int .u8 0]) [Zo8])) 4294967296,cells (.var 0) 1,same zBiq3 (.len (.lit 0 [])),upto (.len zBiq5) 4294967296,same (.len (.fn 2 [.var 1] 0)) (.len (.fn 2 [.var 1] 0)),same (.len zBiq5) (.len zBiq5),upto (.len zBiq8) 4294967296,same (.len zBiq8) (.len zBiq8)],[zBiq8]):=by kernel_rfl

@[simp] theorem kMsB (k:Nat):(EMsB k).k=k:=rfl
@[simp] theorem kPuB (k:Nat):(EPuB k).k=k:=rfl
@[simp] theorem kTxB (k:Nat):(ETxB k).k=k:=rfl
theorem Zpu (l:List UInt8):ropPV .cat [.row 0 [],pBy l]=some (pBy l):=by simp [ropPV,pBy]
theorem r_cat1Y (b:UInt8) (z:Int) (hz:z=(b.toNat:Int)) (l:List UInt8):ropPV .cat [.row 1 [.v (.int .u8 z)],pBy l]=some (pBy (b :: l)):=by
 subst hz
 have:=r_cat [b] l
 simpa [pBy] using this
theorem u8_size (s:ByteArray) (h:s.size<=255):IntKind.u8.wrap (s.size:Int)=((UInt8.ofNat s.size).toNat:Int):=by
 rw [IntKind.wrap_u8,UInt8.toNat_ofNat']
 omega
theorem Zkz {l:List UInt8} (h:1<=l.length):∃ n cs,some (pBy l)=some (PV.row (n+1) cs):=by
 refine ⟨l.length - 1,l.map fun b=>.v (.int .u8 b.toNat),?_⟩
 simp only [pBy,Option.some.injEq,PV.row.injEq,and_true]
 omega
def msB (s:ByteArray):List UInt8:=UInt8.ofNat s.size :: s.data.toList
@[simp] theorem msB_length (s:ByteArray):(msB s).length=s.size+1:=by simp [msB]
def RMsB (ps qs:List PV):Prop:=∃ s:ByteArray,s.size<=255/\ps=[pS s]/\qs=[pBy (msB s)]
theorem fMsB:∀ ps q1 q2,RMsB ps q1->RMsB ps q2->q1=q2:=by
 rintro ps q1 q2 ⟨s,_,rfl,rfl⟩ ⟨s',_,h,rfl⟩
 simp only [List.cons.injEq,PV.v.injEq,Value.string.injEq,and_true] at h
 rw [h]
theorem toldMsB (k:Nat):ToldF 90 (EMsB k) (spec RMsB):=by
 refine Zg1 (fun _ _=>none) _ (Zam Try.prog 90) Try.func90 (by kernel_rfl) shMs (by kernel_rfl) ?_ ?_
 ·intro ps qs h
  obtain ⟨s,_,rfl,rfl⟩:=Zag h
  exact Za7 rfl
 ·intro C ps qs hF h a w hsh
  obtain ⟨s,hs,rfl,rfl⟩:=Zag h
  show wpL Try.prog flMs _ a w
  rw [<- List.append_nil flMs]
  have u:=u8_size s hs
  obtain ⟨b,hb⟩:∃ b,b=UInt8.ofNat s.size:=⟨_,rfl⟩
  have rc:ropPV .cat [.row 1 [.v (.int .u8 (b.toNat:Int))],pBy s.data.toList]=some (pBy (msB s)):=by rw [r_cat1Y _ _ rfl _,hb];rfl
  rw [<- hb] at u
  have ro:=Zpt s
  obtain ⟨q,hq0⟩:∃ q:Nat,q=s.size+1:=⟨_,rfl⟩
  have rl:lenPV (pBy (msB s))=some (pI (q:Int)):=by rw [r_len,msB_length,hq0]
  have hd:¬ (255:Int) < (s.size:Int):=by omega
  refine Zad names_ok mixed_ok fil.noOrc_ok ms hsh ?_ (fun qs a1 wd hq hx=>⟨nofun,fun _=>⟨.inr rfl,shMsR,_,[SX.var 0],[0],hx,by kernel_rfl,?_,?_⟩⟩)
  ·simp [Zab,Zaa,Base.ev,SX.ev,evs,Value.oneCell',binPV,Zay,Zal,u,rc,ro,rl,hd,Zjm]
   all_goals omega
  ·simp [evs,SX.ev,Zay,Zal,u,ro,rc] at hq
   subst hq
   rfl
  ·intro j hj
   simp at hj
   subst hj
   exact Zkz (by simp)
noncomputable def FB:Fns:=fun k=>match k with | 1=>spec RLow | 2=>spec RMsB | _=>fun _=>none
theorem pp1:ToldF 89 (ELow 1) (FB 1):=toldLow 1
theorem pp2:ToldF 90 (EMsB 2) (FB 2):=toldMsB 2
def RPuB (ps qs:List PV):Prop:=∃ (l:List UInt8) (v n:Int),l.length<=1000000/\1<=n/\n<=8/\ps=[pBy l,pI v,pI n]/\qs=[pBy (l++low v n.toNat)]
theorem fPuB:∀ ps q1 q2,RPuB ps q1->RPuB ps q2->q1=q2:=by
 rintro ps q1 q2 ⟨l,v,n,_,_,_,rfl,rfl⟩ ⟨l',v',n',_,_,_,h,rfl⟩
 simp only [List.cons.injEq,PV.v.injEq,Value.int.injEq,true_and,and_true] at h
 rw [pBy_inj h.1,h.2.1,h.2.2]
theorem toldPuB (k:Nat):ToldF 76 (EPuB k) (spec RPuB):=by
 refine Zg1 FB _ (Zam Try.prog 76) Try.func76 (by kernel_rfl) shPu (by kernel_rfl) ?_ ?_
 ·intro ps qs h
  obtain ⟨l,v,n,_,_,_,rfl,rfl⟩:=Zag h
  exact Za7 rfl
 ·intro C ps qs hF h a w hsh
  obtain ⟨l,v,n,hl,h1,h8,rfl,rfl⟩:=Zag h
  show wpL Try.prog flPu _ a w
  rw [<- List.append_nil flPu]
  obtain ⟨m,rfl⟩:∃ m:Nat,n=(m:Int):=⟨n.toNat,by omega⟩
  have g1:FB 1 [pI v,pI (m:Int)]=some [pBy (low v m)]:=Zaf fLow ⟨v,m,rfl,by rw [lowB,if_pos ⟨h1,h8⟩];rfl⟩
  have hll:(low v m).length=m:=Zfn v m
  show wpL Try.prog (flPu++[]) (fun e a' w'=>_) a w
  simp only [Int.toNat_natCast]
  generalize low v m=y at *
  have rl:=r_len l
  have rly:=r_len y
  rw [hll] at rly
  have v1:IntKind.i64.wrap (l.length:Int)=(l.length:Int):=wrapI _ (by omega) (by omega)
  have v2:IntKind.i64.wrap ((l.length:Int)+(m:Int))=((l.length+m:Nat):Int):=by rw [wrapI _ (by omega) (by omega)];omega
  have v3:IntKind.i64.wrap ((l.length+m:Nat):Int)=((l.length+m:Nat):Int):=wrapI _ (by omega) (by omega)
  have d1:¬ ((l.length:Int) < 0):=by omega
  have d2:¬ (((l.length+m:Nat):Int) < 0):=by omega
  have d3:(0:Int) < ((l.length+m:Nat):Int):=by omega
  have c0:=Zpu l
  have c1:=r_cat l y
  have rlc:lenPV (pBy (l++y))=some (pI ((l.length+m:Nat):Int)):=by rw [r_len,List.length_append,hll]
  have cb:=Zk5 l (by omega)
  have hne:1<=(l++y).length:=by rw [List.length_append];omega
  generalize l++y=z at *
  generalize hT:l.length+m=T at *
  obtain ⟨rp,hrp⟩:∃ rp,rp=List.replicate T (0:UInt8):=⟨_,rfl⟩
  have rr:ropPV (.rep [.int .u8 0]) [pI (T:Int)]=some (pBy rp):=by rw [r_rep _ (by omega),hrp,Int.toNat_natCast]
  have rlr:lenPV (pBy rp)=some (pI (T:Int)):=by rw [r_len,hrp,List.length_replicate]
  clear hrp
  refine Zad names_ok mixed_ok (Zae tabB) pu hsh ?_ (fun qs a1 wd hq hx=>⟨nofun,fun _=>⟨.inr rfl,shPuR,_,[SX.var 0],[0],hx,by kernel_rfl,?_,?_⟩⟩)
  ·simp [Zab,Zaa,Base.ev,SX.ev,evs,Value.oneCell',hF,g1,pp1,binPV,rl,rly,v1,v2,v3,d1,d2,d3,rr,rlr,c0,c1,rlc,cb,Zjm]
   all_goals omega
  ·simp [evs,SX.ev,hF,g1,c0,c1] at hq
   subst hq
   rfl
  ·intro j hj
   simp at hj
   subst hj
   exact Zkz hne
def RTxB (ps qs:List PV):Prop:=∃ (l:List UInt8) (s:ByteArray),l.length<=1000000/\s.size<=255/\ps=[pBy l,pS s]/\qs=[pBy (l++msB s)]
theorem fTxB:∀ ps q1 q2,RTxB ps q1->RTxB ps q2->q1=q2:=by
 rintro ps q1 q2 ⟨l,s,_,_,rfl,rfl⟩ ⟨l',s',_,_,h,rfl⟩
 simp only [List.cons.injEq,PV.v.injEq,Value.string.injEq,true_and,and_true] at h
 rw [pBy_inj h.1,h.2]
theorem toldTxB (k:Nat):ToldF 77 (ETxB k) (spec RTxB):=by
 refine Zg1 FB _ (Zam Try.prog 77) Try.func77 (by kernel_rfl) shTx (by kernel_rfl) ?_ ?_
 ·intro ps qs h
  obtain ⟨l,s,_,_,rfl,rfl⟩:=Zag h
  exact Za7 rfl
 ·intro C ps qs hF h a w hsh
  obtain ⟨l,s,hl,hs,rfl,rfl⟩:=Zag h
  show wpL Try.prog flTx _ a w
  rw [<- List.append_nil flTx]
  obtain ⟨m,hm⟩:∃ m:Nat,m=s.size+1:=⟨_,rfl⟩
  have g1:FB 2 [pS s]=some [pBy (msB s)]:=Zaf fMsB ⟨s,hs,rfl,rfl⟩
  have hll:(msB s).length=m:=by rw [msB_length,hm]
  have hm1:1<=m:=by omega
  have hm8:m<=256:=by omega
  clear hm
  generalize msB s=y at *
  have rl:=r_len l
  have rly:=r_len y
  rw [hll] at rly
  have v1:IntKind.i64.wrap (l.length:Int)=(l.length:Int):=wrapI _ (by omega) (by omega)
  have v2:IntKind.i64.wrap ((l.length:Int)+(m:Int))=((l.length+m:Nat):Int):=by rw [wrapI _ (by omega) (by omega)];omega
  have v3:IntKind.i64.wrap ((l.length+m:Nat):Int)=((l.length+m:Nat):Int):=wrapI _ (by omega) (by omega)
  have d1:¬ ((l.length:Int) < 0):=by omega
  have d2:¬ (((l.length+m:Nat):Int) < 0):=by omega
  have d3:(0:Int) < ((l.length+m:Nat):Int):=by omega
  have c0:=Zpu l
  have c1:=r_cat l y
  have rlc:lenPV (pBy (l++y))=some (pI ((l.length+m:Nat):Int)):=by rw [r_len,List.length_append,hll]
  have cb:=Zk5 l (by omega)
  have hne:1<=(l++y).length:=by rw [List.length_append];omega
  generalize l++y=z at *
  generalize hT:l.length+m=T at *
  obtain ⟨rp,hrp⟩:∃ rp,rp=List.replicate T (0:UInt8):=⟨_,rfl⟩
  have rr:ropPV (.rep [.int .u8 0]) [pI (T:Int)]=some (pBy rp):=by rw [r_rep _ (by omega),hrp,Int.toNat_natCast]
  have rlr:lenPV (pBy rp)=some (pI (T:Int)):=by rw [r_len,hrp,List.length_replicate]
  clear hrp
  refine Zad names_ok mixed_ok (Zae tabB) tx hsh ?_ (fun qs a1 wd hq hx=>⟨nofun,fun _=>⟨.inr rfl,shTxR,_,[SX.var 0],[0],hx,by kernel_rfl,?_,?_⟩⟩)
  ·simp [Zab,Zaa,Base.ev,SX.ev,evs,Value.oneCell',hF,g1,pp2,binPV,rl,rly,v1,v2,v3,d1,d2,d3,rr,rlr,c0,c1,rlc,cb,Zjm]
   all_goals omega
  ·simp [evs,SX.ev,hF,g1,c0,c1] at hq
   subst hq
   rfl
  ·intro j hj
   simp at hj
   subst hj
   exact Zkz hne

end Go.Proofs.Ytnomiffghidmbaa.bip
end
end
end
section
/- Texts joined. -/
section
/- Numbers and texts as bytes (package bits), taken: told. -/
namespace Go.Proofs.Ytnomiffghidmbaa.bip
open Go Go.RowKit eng SX Fact fil ima symD
set_option linter.unusedVariables false
set_option linter.unusedSimpArgs false
set_option maxRecDepth 1000000

def ENb (k:Nat):FnE:={ k:=k,ins:=[none],leaks:=[false],outs:=[none],kinds:=[.num] }
def ETkB (k:Nat):FnE:={ k:=k,ins:=[none,none],leaks:=[false,false],outs:=[none,none],kinds:=[.num,.truth] }
def ETtB (k:Nat):FnE:={ k:=k,ins:=[none],leaks:=[false],outs:=[none,none,none],kinds:=[.num,.num,.truth] }
def tabN (f:FuncId):Option FnE:=cond (Nat.beq f 94) (some (ENb 1)) none
noncomputable def flN:=flat (Zam Try.prog 94)
noncomputable def lpN:=flat (Zaq (nth flN 3))
def shN0:Shape:=⟨[(0,.leaf)],[],[some false],19,94⟩
def shN1:Shape:=⟨[(3,.leaf),(6,.leaf),(7,.leaf),(8,.leaf)],[],[none,some false,none,none],19,94⟩
def shNR:Shape:=⟨[(2,.leaf)],[],[none],19,94⟩
def hCv (_:FuncId) (o:Oper):Option Hint:=match o.op with | .convert ..=>some .own | .slice ..=>some .own | _=>none
@[simp] def zBir1:SX:=.bin .add (.con (.int .i64 1)) (.fn 1 [SX.sub (.var 0) (rop ROp.min2 [.con (.int .i64 0),.con (.int .i64 0)]) (.con (.int .i64 1)) 1] 0)
@[simp] def zBir2:SX:=rop ROp.min2 [.con (.int .i64 0),.con (.int .i64 0)]
@[simp] def zBir3:SX:=rop ROp.toStr [SX.sub (SX.sub (.var 0) zBir2 zBir1 1) (rop ROp.min2 [.con (.int .i64 1),.con (.int .i64 1)]) (.len (SX.sub (.var 0) zBir2 zBir1 1)) 1]
@[simp] def zBir4:SX:=.op (Op.binOp .or 3 (Operand.tmp 13) (Operand.tmp 15) 3) 3 [13,15] [.op (Op.binOp .shl 3 (Operand.tmp 12) (Operand.const (.int .u64 (Int.ofNat 8))) 105) 3 [12] [.var 0],.conv .i64 (.cell (.var 1) (.var 3) 1 0)]
@[simp] def zBir5:SX:=.con (.int .i64 1)
@[simp] def zBir6:SX:=.len (.var 0)
@[simp] def zBir7:SX:=.bin .gtr (.var 1) (.con (.int .i64 7))
@[simp] def zBir8:SX:=.bin .gtr zBir5 zBir6
@[simp] def zBir9:List SX:=[.con (.string { data:={ toList:=[] } }),.con (.int .i64 0),.con (.bool false)]
@[simp] def Zt9:SX:=.bin .lss (.var 3) (.var 2)
@[simp] def Zt8:SX:=.bin .lss (.var 1) zBir5
@[simp] def Zt7:SX:=.bin .gtr (.var 1) zBir6
@[simp] def Zrn:SX:=.con (.int .i64 0)
theorem npre:segTo Try.prog fil.noOrc 10000 (flN.take 3) shN0 [] shN1 []=some (.normal,[.ok zBir6,.ok Zrn,.ok zBir6,.ok Zrn],[Zrn,.var 0,zBir6,Zrn]):=by kernel_rfl
theorem nx:segTo Try.prog fil.noOrc 10000 lpN shN1 [0] shN1 []=some (.exit 0,[.ok Zt9,.is Zt9 (.bool false),.ok (.var 0),.ok (.var 2),.ok (.var 3)],[.var 0,.var 1,.var 2,.var 3]):=by kernel_rfl
theorem no:segTo Try.prog fil.noOrc 10000 lpN shN1 [1] shN1 []=some (.normal,[.ok Zt9,.is Zt9 (.bool true),.idx (.var 1) (.var 3) 1 1,.idx (.var 1) (.var 3) 1 1,.ok (.cell (.var 1) (.var 3) 1 0),.ok (.op (Op.binOp .shl 3 (Operand.tmp 12) (Operand.const (.int .u64 (Int.ofNat 8))) 105) 3 [12] [.var 0]),.ok (.conv .i64 (.cell (.var 1) (.var 3) 1 0)),.ok zBir4,.ok (.bin .add (.var 3) zBir5),.ok zBir4,.ok (.var 2),.ok (.bin .add (.var 3) zBir5)],[zBir4,.var 1,.var 2,.bin .add (.var 3) zBir5]):=by kernel_rfl
theorem npost:segTo Try.prog fil.noOrc 10000 (flN.drop 4) shN1 [] shNR []=some (.ret,[.ok (.var 0)],[.var 0]):=by kernel_rfl
theorem t0:runTo Try.prog (orcFn tabN) 10000 79 (ETkB 2) [.row,.num] [0,0,0]=some ([.ok (.var 1),.ok Zt8,.is Zt8 (.bool false),.ok zBir7,.is zBir7 (.bool false),.ok zBir6,.ok Zt7,.is Zt7 (.bool false),le3 zBir2 (.var 1) zBir6,.fn 94 (ENb 1) [SX.sub (.var 0) zBir2 (.var 1) 1],.ok (.fn 1 [SX.sub (.var 0) zBir2 (.var 1) 1] 0)],[.fn 1 [SX.sub (.var 0) zBir2 (.var 1) 1] 0,.con (.bool true)]):=by kernel_rfl
theorem t1:runTo Try.prog (orcFn tabN) 10000 79 (ETkB 2) [.row,.num] [0,0,1]=some ([.ok (.var 1),.ok Zt8,.is Zt8 (.bool false),.ok zBir7,.is zBir7 (.bool false),.ok zBir6,.ok Zt7,.is Zt7 (.bool true)],[Zrn,.con (.bool false)]):=by kernel_rfl
theorem x0:runTo Try.prog (orcFn tabN) 10000 81 (ETtB 2) [.row] [0,0] hCv=some ([.ok zBir6,.ok zBir8,.is zBir8 (.bool false),le3 zBir2 zBir5 zBir6,.fn 94 (ENb 1) [SX.sub (.var 0) zBir2 zBir5 1],.ok (.fn 1 [SX.sub (.var 0) zBir2 zBir5 1] 0),.ok zBir1,.ok zBir6,.ok (.bin .gtr zBir1 zBir6),.is (.bin .gtr zBir1 zBir6) (.bool false),le3 zBir2 zBir1 zBir6,le3 (rop ROp.min2 [zBir5,zBir5]) (.len (SX.sub (.var 0) zBir2 zBir1 1)) (.len (SX.sub (.var 0) zBir2 zBir1 1)),.ok zBir3,.ok (.slen zBir3),.ok (.bin .add zBir5 (.slen zBir3))],[zBir3,.bin .add zBir5 (.slen zBir3),.con (.bool true)]):=by kernel_rfl
theorem x1:runTo Try.prog (orcFn tabN) 10000 81 (ETtB 2) [.row] [1] hCv=some ([.ok zBir6,.ok zBir8,.is zBir8 (.bool true)],zBir9):=by kernel_rfl
theorem x2:runTo Try.prog (orcFn tabN) 10000 81 (ETtB 2) [.row] [0,1] hCv=some ([.ok zBir6,.ok zBir8,.is zBir8 (.bool false),le3 zBir2 zBir5 zBir6,.fn 94 (ENb 1) [SX.sub (.var 0) zBir2 zBir5 1],.ok (.fn 1 [SX.sub (.var 0) zBir2 zBir5 1] 0),.ok zBir1,.ok zBir6,.ok (.bin .gtr zBir1 zBir6),.is (.bin .gtr zBir1 zBir6) (.bool true)],zBir9):=by kernel_rfl

@[simp] theorem kNb (k:Nat):(ENb k).k=k:=rfl
@[simp] theorem kTkB (k:Nat):(ETkB k).k=k:=rfl
@[simp] theorem kTtB (k:Nat):(ETtB k).k=k:=rfl
theorem op_shl (v:Int) (t t' u:TypeId) (a k:Nat) (c:Int) (hc:c=(k:Int)) (hk:k < 64):opVal Try.prog (Op.binOp .shl t (Operand.tmp a) (Operand.const (.int .u64 c)) u) t' [a] [.int .i64 v]=some (.int .i64 (IntKind.i64.wrap (v * 2 ^ k))):=by
 subst hc
 have ha:Nat.beq a a=true:=Nat.beq_refl a
 have h0:¬ ((k:Int) < 0):=by omega
 have h2:min k 64=k:=by omega
 simp only [opVal,Op.isSelect,cond_false,execOp,envR,lookT,ha,cond_true,eqGuard,binOp]
 simp [Zkx,Zkw,Zg2,Zg5,Op.shift,h0,IntKind.bits,h2]
theorem op_or (x y:Int) (t t':TypeId) (a b:Nat) (hab:Nat.beq a b=false):opVal Try.prog (Op.binOp .or t (Operand.tmp a) (Operand.tmp b) t) t' [a,b] [.int .i64 x,.int .i64 y]=some (.int .i64 (bits .or .i64 x y)):=by
 have hb:Nat.beq b b=true:=Nat.beq_refl b
 have ha:Nat.beq a a=true:=Nat.beq_refl a
 simp only [opVal,Op.isSelect,cond_false,execOp,envR,lookT,ha,hab,hb,cond_true,eqGuard,binOp]
 simp [Zkx,Zkw,Zg2,Zg5,Op.intBits]
 try rfl
theorem i64_or (a b:Nat) (ha:a < 18446744073709551616) (hb:b < 18446744073709551616) (hab:a ||| b < 9223372036854775808):bits .or .i64 (a:Int) (b:Int)=((a ||| b:Nat):Int):=by
 show IntKind.i64.wrap ((BitVec.ofInt 64 (a:Int) ||| BitVec.ofInt 64 (b:Int)).toNat:Int)=_
 have h1:∀ n:Nat,n < 18446744073709551616->(BitVec.ofInt 64 (n:Int)).toNat=n:=fun n hn=>by
  rw [BitVec.toNat_ofInt]
  omega
 rw [BitVec.toNat_or,h1 a ha,h1 b hb,IntKind.wrap_i64]
 omega
theorem or_low (d z:Nat) (hz:z < 256):(d * 256) ||| z=d * 256+z:=by
 have:=Nat.shiftLeft_add_eq_or_of_lt (i:=8) (b:=z) (by omega) d
 rw [Nat.shiftLeft_eq] at this
 exact this.symm
theorem step_or (v:Int) (b:UInt8) (h0:0<=v) (h1:v < 281474976710656):bits .or .i64 (IntKind.i64.wrap (v * 256)) (b.toNat:Int)=v * 256+(b.toNat:Int):=by
 obtain ⟨n,rfl⟩:∃ n:Nat,v=(n:Int):=⟨v.toNat,by omega⟩
 have hb:=b.toNat_lt
 have hz:=or_low n b.toNat hb
 rw [wrapI _ (by omega) (by omega),show (n:Int) * 256=((n * 256:Nat):Int) by omega,i64_or _ _ (by omega) (by omega) (by rw [hz];omega),hz]
 omega
theorem cellY (l:List UInt8) (i:Nat) (h:i < l.length):Zgj (pBy l) (pI (i:Int)) 1 0=some (pU (l[i].toNat:Int)):=by
 rw [Znu,Zln encY l i .i64 1 0 rfl h,Zmz encY l i 0 _ (List.getElem?_eq_getElem h) (by decide)];rfl
def RNb (ps qs:List PV):Prop:=∃ l:List UInt8,l.length<=7/\ps=[pBy l]/\qs=[pI (num l)]
theorem fNb:∀ ps q1 q2,RNb ps q1->RNb ps q2->q1=q2:=by
 rintro ps q1 q2 ⟨l,_,rfl,rfl⟩ ⟨l',_,h,rfl⟩
 simp only [List.cons.injEq,and_true] at h
 rw [pBy_inj h]
theorem cutN:flN=flN.take 3++.block (Zat (nth flN 3)) (.loop (Zaq (nth flN 3))) :: flN.drop 4:=by kernel_rfl
theorem num_take {l:List UInt8} {i:Nat} (h:i < l.length):num (l.take (i+1))=num (l.take i) * 256+(l[i].toNat:Int):=by
 rw [List.take_succ_eq_append_getElem h,num_snoc]
theorem toldNb (k:Nat):ToldF 94 (ENb k) (spec RNb):=by
 refine Zfx (fun _ _=>none) _ (Zam Try.prog 94) Try.func94 (by kernel_rfl) shN0 (by kernel_rfl) ?_ ?_
 ·intro ps qs h
  obtain ⟨l,_,rfl,rfl⟩:=Zag h
  exact Za7 rfl
 ·intro C ps qs hF h a w hsh
  obtain ⟨l,hl,rfl,rfl⟩:=Zag h
  show wpL Try.prog flN _ a w
  rw [cutN]
  have rl:=r_len l
  refine Zad names_ok mixed_ok fil.noOrc_ok npre hsh ?_ (fun qs a1 wd hq hx=>⟨fun _=>?_,fun h=>absurd rfl h⟩)
  ·simp [Zab,Zaa,Base.ev,SX.ev,evs,Value.oneCell',rl]
  simp [evs,SX.ev,rl] at hq
  subst hq
  refine Zbj (fun m a w=>∃ i:Nat,m=l.length - i/\i<=l.length/\Zah C shN1 [pI (num (l.take i)),pBy l,pI (l.length:Int),pI (i:Int)] a w) ?_ (n:=l.length) ⟨0,by omega,by omega,hx⟩
  rintro m a w ⟨i,rfl,hi,hx⟩
  rw [<- List.append_nil (flat _)]
  by_cases hlt:i < l.length
  ·have v4:IntKind.i64.wrap ((i:Int)+1)=(i:Int)+1:=wrapI _ (by omega) (by omega)
   have cy:=cellY l i hlt
   have ix:=Zgp l i 1 .i64 hlt (by omega)
   have n0:=Ziw (l.take i)
   have n1:=Zuo (l.take i)
   have hn1:num (l.take i) < 281474976710656:=by
    have:(256:Int) ^ (l.take i).length<=256 ^ 6:=by
     have h6:(l.take i).length<=6:=by rw [List.length_take];omega
     exact_mod_cast Nat.pow_le_pow_right (n:=256) (by omega) h6
    omega
   have so:=step_or (num (l.take i)) l[i] n0 hn1
   rw [<- num_take hlt] at so
   have wu:IntKind.i64.wrap (l[i].toNat:Int)=(l[i].toNat:Int):=wrapI _ (by omega) (by have:=l[i].toNat_lt;omega)
   have o1:=op_shl (num (l.take i)) 3 3 105 12 8 8 rfl (by omega)
   rw [show (2:Int) ^ 8=256 from rfl] at o1
   have o2:=op_or (IntKind.i64.wrap (num (l.take i) * 256)) (l[i].toNat:Int) 3 3 13 15 rfl
   rw [so] at o2
   generalize IntKind.i64.wrap (num (l.take i) * 256)=z at *
   refine Zad names_ok mixed_ok fil.noOrc_ok no hx ?_ (fun qs a1 wd hq hx=>⟨fun _=>.inl ⟨rfl,l.length - (i+1),by omega,i+1,rfl,by omega,?_⟩,fun h=>absurd rfl h⟩)
   ·simp [Zab,Zaa,Base.ev,SX.ev,evs,Value.oneCell',binPV,Zay,Za8,PV.plain,v4,cy,ix,wu,o1,o2,hlt]
   ·simp [evs,SX.ev,binPV,Zay,Za8,PV.plain,v4,cy,wu,o1,o2] at hq
    subst hq
    exact hx
  ·obtain rfl:i=l.length:=by omega
   rw [List.take_length] at hx
   refine Zad names_ok mixed_ok fil.noOrc_ok nx hx ?_ (fun qs a1 wd hq hx=>⟨nofun,fun _=>.inr (.inl ⟨rfl,?_⟩)⟩)
   ·simp [Zab,Zaa,Base.ev,SX.ev,evs,Value.oneCell',binPV]
   simp [evs,SX.ev] at hq
   subst hq
   rw [<- List.append_nil (flN.drop 4)]
   refine Zad names_ok mixed_ok fil.noOrc_ok npost hx ?_ (fun qs a1 wd hq hx=>⟨nofun,fun _=>⟨.inr rfl,shNR,_,[SX.var 0],hx,by kernel_rfl,?_⟩⟩)
   ·simp [Base.ev,SX.ev,evs,Value.oneCell']
   ·simp [evs,SX.ev] at hq
    subst hq
    rfl

@[simp] theorem ex_0p (p:Nat->Prop):(∃ z:Nat,(0:Int)=(z:Int)/\p z) ↔ p 0:=⟨fun ⟨z,h,hp⟩=>by rw [show (0:Nat)=z by omega];exact hp,fun h=>⟨0,rfl,h⟩⟩
@[simp] theorem ex_1p (p:Nat->Prop):(∃ z:Nat,(1:Int)=(z:Int)/\p z) ↔ p 1:=⟨fun ⟨z,h,hp⟩=>by rw [show (1:Nat)=z by omega];exact hp,fun h=>⟨1,rfl,h⟩⟩
noncomputable def FN:Fns:=fun k=>match k with | 1=>spec RNb | _=>fun _=>none
theorem qq1:ToldF 94 (ENb 1) (FN 1):=toldNb 1
theorem Znr (l:List UInt8) (a b:Nat) (h1:a<=b) (h2:b<=l.length):subPV (pBy l) (pI (a:Int)) (pI (b:Int)) 1=some (pBy ((l.drop a).take (b - a))):=by
 have g1:(0:Int)<=(a:Int):=by omega
 have g2:(a:Int)<=(b:Int):=by omega
 have g3:(b:Int)<=(l.length:Int):=by omega
 simp [subPV,pBy,g1,g2,g3,List.map_drop,List.map_take]
 omega
def RTkB (ps qs:List PV):Prop:=∃ (l:List UInt8) (n:Nat),l.length<=1000000/\1<=n/\n<=7/\ps=[pBy l,pI (n:Int)]/\qs=if n<=l.length then [pI (num (l.take n)),pB true] else [pI 0,pB false]
theorem fTkB:∀ ps q1 q2,RTkB ps q1->RTkB ps q2->q1=q2:=by
 rintro ps q1 q2 ⟨l,n,_,_,_,rfl,rfl⟩ ⟨l',n',_,_,_,h,rfl⟩
 simp only [List.cons.injEq,PV.v.injEq,Value.int.injEq,true_and,and_true,Int.ofNat_inj] at h
 rw [pBy_inj h.1,h.2]
theorem toldTkB (k:Nat):ToldF 79 (ETkB k) (spec RTkB):=by
 refine Zbw mixed_ok names_ok FN [.row,.num] ?_
 intro ps qs h _
 obtain ⟨l,n,hl,h1,h7,rfl,rfl⟩:=Zag h
 have rl:=r_len l
 have d1:¬ ((n:Int) < 1):=by omega
 have d2:¬ ((7:Int) < (n:Int)):=by omega
 by_cases hn:n<=l.length
 ·rw [if_pos hn]
  have d3:¬ ((l.length:Int) < (n:Int)):=by omega
  have rs:=Znr l 0 n (by omega) hn
  simp only [List.drop_zero,Nat.sub_zero] at rs
  have g1:FN 1 [pBy (l.take n)]=some [pI (num (l.take n))]:=Zaf fNb ⟨l.take n,by rw [List.length_take];omega,rfl,rfl⟩
  have rs0:subPV (pBy l) (pI 0) (pI (n:Int)) 1=some (pBy (l.take n)):=rs
  have rm:ropPV .min2 [pI 0,pI 0]=some (pI 0):=rfl
  generalize num (l.take n)=z at *
  generalize l.take n=y at *
  refine ⟨_,_,_,_,_,_,Zae tabN,t0,fun w FP=>?_,?_⟩
  ·simp [Zab,Zaa,Base.ev,SX.ev,evs,Value.oneCell',g1,qq1,binPV,rl,d1,d2,d3,rs0,rm]
   all_goals omega
  ·simp [evs,SX.ev,g1,rs0,rm]
 ·rw [if_neg hn]
  have d3:(l.length:Int) < (n:Int):=by omega
  refine ⟨_,_,_,_,_,_,Zae tabN,t1,fun w FP=>?_,?_⟩
  ·simp [Zab,Zaa,Base.ev,SX.ev,evs,Value.oneCell',binPV,rl,d1,d2,d3]
  ·simp [evs,SX.ev]
def mayT (l:List UInt8):Bool:=decide (1<=l.length) && decide ((l.getD 0 0).toNat+1<=l.length)
def txL (l:List UInt8):ByteArray:=⟨((l.drop 1).take (l.getD 0 0).toNat).toArray⟩
def RTtB (ps qs:List PV):Prop:=∃ l:List UInt8,l.length<=1000000/\ps=[pBy l]/\qs=if mayT l=true then [pS (txL l),pI (((l.getD 0 0).toNat+1:Nat):Int),pB true] else [pS ⟨⟨[]⟩⟩,pI 0,pB false]
theorem fTtB:∀ ps q1 q2,RTtB ps q1->RTtB ps q2->q1=q2:=by
 rintro ps q1 q2 ⟨l,_,rfl,rfl⟩ ⟨l',_,h,rfl⟩
 simp only [List.cons.injEq,and_true] at h
 rw [pBy_inj h]
theorem toldTtB (k:Nat):ToldF 81 (ETtB k) (spec RTtB):=by
 refine Zbw mixed_ok names_ok FN [.row] ?_
 intro ps qs h _
 obtain ⟨l,hl,rfl,rfl⟩:=Zag h
 have rl:=r_len l
 have rm:ropPV .min2 [pI 0,pI 0]=some (pI 0):=rfl
 have rm1:ropPV .min2 [pI 1,pI 1]=some (pI 1):=rfl
 by_cases h1:1<=l.length
 rotate_left
 ·have hm:mayT l=false:=by simp [mayT,h1]
  rw [hm,if_neg (by simp)]
  have d1:(l.length:Int) < 1:=by omega
  refine ⟨_,_,_,_,_,_,Zae tabN,x1,fun w FP=>?_,?_⟩
  ·simp [Zab,Zaa,Base.ev,SX.ev,evs,Value.oneCell',binPV,rl,d1]
  ·simp [evs,SX.ev]
 have d1:¬ ((l.length:Int) < 1):=by omega
 have e1:l.take 1=[l.getD 0 0]:=by
  match l,h1 with
  | b :: r,_=>rfl
 have rs:subPV (pBy l) (pI 0) (pI 1) 1=some (pBy [l.getD 0 0]):=by
  have:=Znr l 0 1 (by omega) h1
  simpa [e1] using this
 obtain ⟨b,hb⟩:∃ b,b=l.getD 0 0:=⟨_,rfl⟩
 have hb8:=b.toNat_lt
 rw [<- hb] at rs
 have g1:FN 1 [pBy [b]]=some [pI (b.toNat:Int)]:=Zaf fNb ⟨[b],by simp,rfl,by simp [num]⟩
 have v1:IntKind.i64.wrap (1+(b.toNat:Int))=((b.toNat+1:Nat):Int):=by rw [wrapI _ (by omega) (by omega)];omega
 by_cases h2:b.toNat+1<=l.length
 ·have hm:mayT l=true:=by unfold mayT;rw [<- hb,decide_eq_true h1,decide_eq_true h2];rfl
  rw [hm,if_pos rfl,<- hb]
  obtain ⟨m,hm0⟩:∃ m:Nat,m=b.toNat+1:=⟨_,rfl⟩
  rw [<- hm0] at v1 h2 ⊢
  have d2:¬ ((l.length:Int) < (m:Int)):=by omega
  have rs2:subPV (pBy l) (pI 0) (pI (m:Int)) 1=some (pBy (l.take m)):=by
   have:=Znr l 0 m (by omega) h2
   simpa using this
  have hlm:(l.take m).length=m:=by rw [List.length_take];omega
  have rl2:=r_len (l.take m)
  rw [hlm] at rl2
  have rs3:subPV (pBy (l.take m)) (pI 1) (pI (m:Int)) 1=some (pBy ((l.drop 1).take b.toNat)):=by
   have:=Znr (l.take m) 1 m (by omega) (by omega)
   rw [List.drop_take,show m - 1=b.toNat by omega,List.take_take,Nat.min_self] at this
   exact this
  have rt:=Zd6 ((l.drop 1).take b.toNat)
  have htx:txL l=⟨((l.drop 1).take b.toNat).toArray⟩:=by rw [txL,<- hb]
  have hsz:(txL l).size=b.toNat:=by
   rw [htx]
   show (((l.drop 1).take b.toNat).toArray).size=_
   rw [List.size_toArray,List.length_take,List.length_drop]
   omega
  rw [<- htx] at rt
  generalize txL l=s at *
  have v2:IntKind.i64.wrap (1+(s.size:Int))=(m:Int):=by rw [hsz,wrapI _ (by omega) (by omega)];omega
  generalize (l.drop 1).take b.toNat=y at *
  generalize l.take m=ym at *
  refine ⟨_,_,_,_,_,_,Zae tabN,x0,fun w FP=>?_,?_⟩
  ·simp [Zab,Zaa,Base.ev,SX.ev,evs,Value.oneCell',g1,qq1,binPV,Zal,rl,d1,d2,rs,rs2,rs3,rl2,rt,v1,v2,rm,rm1]
   all_goals omega
  ·simp [evs,SX.ev,g1,binPV,Zal,rs,rs2,rs3,rl2,rt,v1,v2,rm,rm1]
 ·have hm:mayT l=false:=by unfold mayT;rw [<- hb,decide_eq_false h2,Bool.and_false]
  rw [hm,if_neg (by simp)]
  have d2:(l.length:Int) < ((b.toNat+1:Nat):Int):=by omega
  obtain ⟨m,hm0⟩:∃ m:Nat,m=b.toNat+1:=⟨_,rfl⟩
  rw [<- hm0] at v1 d2
  refine ⟨_,_,_,_,_,_,Zae tabN,x2,fun w FP=>?_,?_⟩
  ·simp [Zab,Zaa,Base.ev,SX.ev,evs,Value.oneCell',g1,qq1,binPV,rl,d1,d2,rs,v1,rm]
   all_goals omega
  ·simp [evs,SX.ev]

end Go.Proofs.Ytnomiffghidmbaa.bip
end
section
/- Numbers and texts as bytes, the document's: told. -/
namespace Go.Proofs.Ytnomiffghidmbaa.rbt
open Go Go.RowKit eng SX Fact fil ima symD
open bip hiding isApp hApp bitsN
set_option linter.unusedVariables false
set_option linter.unusedSimpArgs false
set_option maxRecDepth 1000000

def isApp:Op->Bool | .call { callee:=.builtin .append,.. }=>true | .makeSlice ..=>true | _=>false
def hApp (_:FuncId) (o:Oper):Option Hint:=cond (isApp o.op) (some .own) none
def bitsN:Nat->Nat->List Nat
 | 0,_=>[]
 | n+1,k=>k % 2 :: bitsN n (k / 2)
noncomputable def flU:=flat (Zam Try.prog 39)
noncomputable def lpU:=flat (Zaq (nth flU 5))
noncomputable def flX:=flat (Zam Try.prog 40)
noncomputable def flK:=flat (Zam Try.prog 71)
noncomputable def lpK:=flat (Zaq (nth flK 5))
def shU0:Shape:=⟨[(0,.leaf),(1,.leaf),(2,.leaf)],[],[some false,none,none],34,39⟩
def shU1:Shape:=⟨[(1,.leaf),(7,.own 0 2 1),(8,.leaf)],[brow 2],[none,none],34,39⟩
def shUR:Shape:=⟨[(6,.own 0 0 1)],[brow 0],[],34,39⟩
def shX0:Shape:=⟨[(0,.leaf),(1,.leaf)],[],[some false,none],21,40⟩
def shXR:Shape:=⟨[(4,.own 0 0 1)],[brow 0],[],21,40⟩
def shK0:Shape:=⟨[(0,.leaf),(1,.leaf)],[],[some false,none],34,71⟩
def shK1:Shape:=⟨[(0,.leaf),(1,.leaf),(6,.leaf),(7,.leaf)],[],[some false,none,none,none],34,71⟩
def shKR:Shape:=⟨[(4,.leaf),(5,.leaf)],[],[none,none],34,71⟩
@[simp] def zRbt1:SX:=.op (Op.binOp .shr 3 (Operand.tmp 26) (Operand.tmp 28) 3) 3 [26,28] [.var 0,.bin .mul (.con (.int .i64 8)) (.var 1)]
@[simp] def zRbt2:SX:=rop ROp.cat [rop ROp.cat [.lit 0 [],.var 0],.lit 1 [.conv .u8 (.slen (.var 1))]]
@[simp] def zRbt3:SX:=.con (.int .i64 1)
@[simp] def zRbt4:SX:=.bin .add (.bin .mul (.var 2) (.con (.int .i64 256))) (.conv .i64 (.cell (.var 0) (.var 3) 1 0))
@[simp] def zRbt5:SX:=.len (rop ROp.cat [.lit 0 [],.var 0])
@[simp] def zRbt6:SX:=rop ROp.cat [.var 2,.lit 1 [.conv .u8 zRbt1]]
@[simp] def zRbt7:SX:=.con (.int .i64 0)
@[simp] def zRbt8:SX:=rop ROp.cat [zRbt2,rop ROp.ofStr [.var 1]]
@[simp] def zRbt9:SX:=.bin .gtr (.var 1) (.con (.int .i64 7))
@[simp] def Zsp:SX:=.bin .lss (.len (.var 0)) (.var 1)
@[simp] def Zso:SX:=.bin .lss (.var 3) (.var 1)
@[simp] def Zuy:Fact:=same (.len (.var 2)) (.len (.var 2))
@[simp] def Zsn:SX:=.bin .geq (.var 1) zRbt7
@[simp] def Zsm:SX:=.bin .lss (.var 1) zRbt3
theorem upre:segTo Try.prog fil.noOrc 10000 (flU.take 5) shU0 [0,0] shU1 [(1,2)] hApp=some (.normal,[cells (.var 0) 1,same (.len (.lit 0 [])) (.len (.lit 0 [])),upto zRbt5 4294967296,.ok (.bin .lss (.var 2) zRbt3),.is (.bin .lss (.var 2) zRbt3) (.bool false),.ok (.bin .gtr (.var 2) (.con (.int .i64 8))),.is (.bin .gtr (.var 2) (.con (.int .i64 8))) (.bool false),.ok (.bin .sub (.var 2) zRbt3),.ok (.var 1),.ok (.bin .sub (.var 2) zRbt3),same zRbt5 zRbt5],[.var 1,.bin .sub (.var 2) zRbt3,rop ROp.cat [.lit 0 [],.var 0]]):=by kernel_rfl
theorem ux:segTo Try.prog fil.noOrc 10000 lpU shU1 [0] shU1 [(0,0)] hApp=some (.exit 0,[.ok Zsn,.is Zsn (.bool false),.ok (.var 0),.ok (.var 1),Zuy],[.var 0,.var 1,.var 2]):=by kernel_rfl
theorem uo:segTo Try.prog fil.noOrc 10000 lpU shU1 [1] shU1 [(0,1)] hApp=some (.normal,[.ok Zsn,.is Zsn (.bool true),.ok (.bin .mul (.con (.int .i64 8)) (.var 1)),.ok zRbt1,.ok (.conv .u8 zRbt1),Zuy,upto (.len zRbt6) 4294967296,.ok (.bin .sub (.var 1) zRbt3),.ok (.var 0),.ok (.bin .sub (.var 1) zRbt3),same (.len zRbt6) (.len zRbt6)],[.var 0,.bin .sub (.var 1) zRbt3,zRbt6]):=by kernel_rfl
theorem upost:segTo Try.prog fil.noOrc 10000 (flU.drop 6) shU1 [] shUR [(0,0)] hApp=some (.ret,[Zuy],[.var 2]):=by kernel_rfl
theorem xt:segTo Try.prog fil.noOrc 10000 flX shX0 [0] shXR [(1,4)] hApp=some (.ret,[cells (.var 0) 1,same (.len (.lit 0 [])) (.len (.lit 0 [])),upto zRbt5 4294967296,.ok (.slen (.var 1)),.ok (.bin .gtr (.slen (.var 1)) (.con (.int .i64 255))),.is (.bin .gtr (.slen (.var 1)) (.con (.int .i64 255))) (.bool false),.ok (.slen (.var 1)),.ok (.conv .u8 (.slen (.var 1))),same zRbt5 zRbt5,upto (.len zRbt2) 4294967296,.ok (.slen (.var 1)),same (.len zRbt2) (.len zRbt2),upto (.len zRbt8) 4294967296,same (.len zRbt8) (.len zRbt8)],[zRbt8]):=by kernel_rfl
theorem kn:segTo Try.prog fil.noOrc 10000 flK shK0 [0,0,1,1] shKR [] hApp=some (.ret,[.ok Zsm,.is Zsm (.bool false),.ok zRbt9,.is zRbt9 (.bool false),.ok (.len (.var 0)),.ok Zsp,.is Zsp (.bool true),.ok zRbt7,.ok (.con (.bool false))],[zRbt7,.con (.bool false)]):=by kernel_rfl
theorem kpre:segTo Try.prog fil.noOrc 10000 (flK.take 5) shK0 [0,0,0,0] shK1 [] hApp=some (.normal,[.ok Zsm,.is Zsm (.bool false),.ok zRbt9,.is zRbt9 (.bool false),.ok (.len (.var 0)),.ok Zsp,.is Zsp (.bool false),.ok (.var 1),.ok zRbt7,.ok zRbt7],[.var 0,.var 1,zRbt7,zRbt7]):=by kernel_rfl
theorem kx:segTo Try.prog fil.noOrc 10000 lpK shK1 [0] shK1 [] hApp=some (.exit 0,[.ok Zso,.is Zso (.bool false),.ok (.var 1),.ok (.var 2),.ok (.var 3)],[.var 0,.var 1,.var 2,.var 3]):=by kernel_rfl
theorem ko:segTo Try.prog fil.noOrc 10000 lpK shK1 [1] shK1 [] hApp=some (.normal,[.ok Zso,.is Zso (.bool true),.ok (.bin .mul (.var 2) (.con (.int .i64 256))),.idx (.var 0) (.var 3) 1 1,.idx (.var 0) (.var 3) 1 1,.ok (.cell (.var 0) (.var 3) 1 0),.ok (.conv .i64 (.cell (.var 0) (.var 3) 1 0)),.ok zRbt4,.ok (.bin .add (.var 3) zRbt3),.ok (.var 1),.ok zRbt4,.ok (.bin .add (.var 3) zRbt3)],[.var 0,.var 1,zRbt4,.bin .add (.var 3) zRbt3]):=by kernel_rfl
theorem kpost:segTo Try.prog fil.noOrc 10000 (flK.drop 6) shK1 [] shKR [] hApp=some (.ret,[.ok (.var 2),.ok (.con (.bool true))],[.var 2,.con (.bool true)]):=by kernel_rfl

theorem low_get (v:Int):∀ (n j:Nat) (h:j < n),(low v n)[j]?=some (byt v (n - 1 - j))
 | n+1,0,_=>by simp [low]
 | n+1,j+1,h=>by
  simp only [low,List.getElem?_cons_succ]
  rw [low_get v n j (by omega)]
  congr 2
  omega
theorem low_take (v:Int) {n j:Nat} (h:j < n):(low v n).take (j+1)=(low v n).take j++[byt v (n - 1 - j)]:=by
 rw [List.take_add_one,low_get v n j h]
 rfl
theorem r_cat1R (l:List UInt8) (b:UInt8) (z:Int) (hz:z=(b.toNat:Int)):ropPV .cat [pBy l,.row 1 [.v (.int .u8 z)]]=some (pBy (l++[b])):=by
 subst hz
 exact r_cat l [b]
theorem cutU:flU=flU.take 5++.block (Zat (nth flU 5)) (.loop (Zaq (nth flU 5))) :: flU.drop 6:=by kernel_rfl
theorem toldPuR (k:Nat):ToldF 39 (EPuB k) (spec RPuB):=by
 refine Zg1 (fun _ _=>none) _ (Zam Try.prog 39) Try.func39 (by kernel_rfl) shU0 (by kernel_rfl) ?_ ?_
 ·intro ps qs h
  obtain ⟨l,v,n,_,_,_,rfl,rfl⟩:=Zag h
  exact Za7 rfl
 ·intro C ps qs hF h a w hsh
  obtain ⟨l,v,n,hl,h1,h8,rfl,rfl⟩:=Zag h
  show wpL Try.prog flU _ a w
  rw [cutU]
  obtain ⟨m,rfl⟩:∃ m:Nat,n=(m:Int):=⟨n.toNat,by omega⟩
  simp only [Int.toNat_natCast]
  have hm1:1<=m:=by omega
  have hm8:m<=8:=by omega
  have d1:¬ ((m:Int) < 1):=by omega
  have d8:¬ ((8:Int) < (m:Int)):=by omega
  have g1:IntKind.i64.wrap ((m:Int) - 1)=(m:Int) - 1:=wrapI _ (by omega) (by omega)
  have c0:=Zpu l
  have rl:=r_len l
  have cb:=Zk5 l (by omega)
  refine Zad names_ok mixed_ok fil.noOrc_ok upre hsh ?_ (fun qs a1 w1 hq hx=>⟨fun _=>?_,fun h=>absurd rfl h⟩)
  ·simp [Zab,Zaa,Base.ev,SX.ev,evs,Value.oneCell',binPV,d1,d8,g1,c0,rl,cb,Zjm]
   all_goals omega
  simp [evs,SX.ev,binPV,g1,c0] at hq
  subst hq
  show wpL Try.prog (.block _ (.loop _) :: flU.drop 6) _ a1 w1
  refine Zbj (fun k a w=>∃ j:Nat,k=m - j/\j<=m/\Zah C shU1 [pI v,pI ((m:Int) - 1 - (j:Int)),pBy (l++(low v m).take j)] a w) ?_ (n:=m) ⟨0,by omega,by omega,by simpa using hx⟩
  rintro k a w ⟨j,rfl,hj,hx⟩
  have hsl:(l++(low v m).take j).length=l.length+j:=by simp;omega
  have rl1:lenPV (pBy (l++(low v m).take j))=some (pI ((l.length+j:Nat):Int)):=by rw [r_len,hsl]
  rw [<- List.append_nil (flat _)]
  by_cases hlt:j < m
  ·have hd:(0:Int)<=(m:Int) - 1 - (j:Int):=by omega
   have g2:IntKind.i64.wrap (8 * ((m:Int) - 1 - (j:Int)))=8 * ((m:Int) - 1 - (j:Int)):=wrapI _ (by omega) (by omega)
   have g4:IntKind.i64.wrap ((m:Int) - 1 - (j:Int) - 1)=(m:Int) - 1 - ((j+1:Nat):Int):=by rw [wrapI _ (by omega) (by omega)];omega
   have os:=op_shr v (8 * ((m:Int) - 1 - (j:Int))) 3 3 26 28 rfl (by omega) (by omega)
   rw [show (8 * ((m:Int) - 1 - (j:Int))).toNat=8 * (m - 1 - j) by omega] at os
   have u:=u8_byt v (m - 1 - j)
   have ru:=r_cat1R (l++(low v m).take j) (byt v (m - 1 - j)) _ rfl
   rw [List.append_assoc,<- low_take v hlt] at ru
   have hsl2:(l++(low v m).take (j+1)).length=l.length+(j+1):=by simp;omega
   have rl2:lenPV (pBy (l++(low v m).take (j+1)))=some (pI ((l.length+(j+1):Nat):Int)):=by rw [r_len,hsl2]
   generalize hq1:(m:Int) - 1 - (j:Int)=q1 at *
   generalize hq2:(m:Int) - 1 - ((j+1:Nat):Int)=q2 at *
   generalize hL2:l++(low v m).take (j+1)=L2 at *
   generalize l++(low v m).take j=L1 at *
   generalize hT1:l.length+j=T1 at *
   generalize hT2:l.length+(j+1)=T2 at *
   refine Zad names_ok mixed_ok fil.noOrc_ok uo hx ?_ (fun qs a1 wd hq hx=>⟨fun _=>.inl ⟨rfl,m - (j+1),by omega,j+1,rfl,by omega,?_⟩,fun h=>absurd rfl h⟩)
   ·simp [Zab,Zaa,Base.ev,SX.ev,evs,Value.oneCell',binPV,Zay,Za8,PV.plain,g2,g4,os,u,ru,rl1,rl2,hd]
    all_goals omega
   ·simp [evs,SX.ev,binPV,Zay,Za8,PV.plain,g2,g4,os,u,ru] at hq
    subst hq
    rw [hq2,hL2]
    exact hx
  ·obtain rfl:j=m:=by omega
   have hd:¬ ((0:Int)<=(j:Int) - 1 - (j:Int)):=by omega
   generalize hq1:(j:Int) - 1 - (j:Int)=q1 at *
   have ht:(low v j).take j=low v j:=List.take_of_length_le (by simp)
   rw [ht] at hx rl1
   have hlw:(low v j).length=j:=by simp
   generalize low v j=y at *
   generalize hT1:l.length+j=T1 at *
   refine Zad names_ok mixed_ok fil.noOrc_ok ux hx ?_ (fun qs a1 wd hq hx=>⟨nofun,fun _=>.inr (.inl ⟨rfl,?_⟩)⟩)
   ·simp [Zab,Zaa,Base.ev,SX.ev,evs,Value.oneCell',binPV,rl1,Zjm,hd]
   simp [evs,SX.ev] at hq
   subst hq
   rw [<- List.append_nil (flU.drop 6)]
   refine Zad names_ok mixed_ok fil.noOrc_ok upost hx ?_ (fun qs a1 wd hq hx=>⟨nofun,fun _=>⟨.inr rfl,shUR,_,[SX.var 0],[0],hx,by kernel_rfl,?_,?_⟩⟩)
   ·simp [Zab,Zaa,Base.ev,SX.ev,evs,Value.oneCell',rl1]
   ·simp [evs,SX.ev] at hq
    subst hq
    rfl
   ·intro i hi
    simp at hi
    subst hi
    exact Zkz (by rw [List.length_append];omega)
theorem toldTxR (k:Nat):ToldF 40 (ETxB k) (spec RTxB):=by
 refine Zg1 (fun _ _=>none) _ (Zam Try.prog 40) Try.func40 (by kernel_rfl) shX0 (by kernel_rfl) ?_ ?_
 ·intro ps qs h
  obtain ⟨l,s,_,_,rfl,rfl⟩:=Zag h
  exact Za7 rfl
 ·intro C ps qs hF h a w hsh
  obtain ⟨l,s,hl,hs,rfl,rfl⟩:=Zag h
  show wpL Try.prog flX _ a w
  rw [<- List.append_nil flX]
  have u:=u8_size s hs
  have c0:=Zpu l
  have rl:=r_len l
  have cb:=Zk5 l (by omega)
  obtain ⟨b,hb⟩:∃ b,b=UInt8.ofNat s.size:=⟨_,rfl⟩
  rw [<- hb] at u
  have c1:=r_cat1R l b _ rfl
  have rl1:lenPV (pBy (l++[b]))=some (pI ((l.length+1:Nat):Int)):=by rw [r_len];simp
  have ro:=Zpt s
  have c2:=r_cat (l++[b]) s.data.toList
  have e2:(l++[b])++s.data.toList=l++msB s:=by rw [hb];simp [msB]
  rw [e2] at c2
  clear hb
  have rl2:lenPV (pBy (l++msB s))=some (pI ((l.length+(s.size+1):Nat):Int)):=by rw [r_len];simp
  have hd:¬ (255:Int) < (s.size:Int):=by omega
  generalize l++[b]=L1 at *
  have hne:1<=(l++msB s).length:=by simp;omega
  generalize l++msB s=L2 at *
  generalize hT2:l.length+(s.size+1)=T2 at *
  generalize hT1:l.length+1=T1 at *
  refine Zad names_ok mixed_ok fil.noOrc_ok xt hsh ?_ (fun qs a1 wd hq hx=>⟨nofun,fun _=>⟨.inr rfl,shXR,_,[SX.var 0],[0],hx,by kernel_rfl,?_,?_⟩⟩)
  ·simp [Zab,Zaa,Base.ev,SX.ev,evs,Value.oneCell',binPV,Zay,Zal,u,c0,c1,c2,ro,rl,rl1,rl2,cb,hd,Zjm]
   all_goals omega
  ·simp [evs,SX.ev,Zay,Zal,u,c0,c1,c2,ro] at hq
   subst hq
   rfl
  ·intro i hi
   simp at hi
   subst hi
   exact Zkz hne

theorem cutK:flK=flK.take 5++.block (Zat (nth flK 5)) (.loop (Zaq (nth flK 5))) :: flK.drop 6:=by kernel_rfl
theorem toldTkR (k:Nat):ToldF 71 (ETkB k) (spec RTkB):=by
 refine Zfx (fun _ _=>none) _ (Zam Try.prog 71) Try.func71 (by kernel_rfl) shK0 (by kernel_rfl) ?_ ?_
 ·intro ps qs h
  obtain ⟨l,n,_,_,_,rfl,_⟩:=Zag h
  exact Za7 rfl
 ·intro C ps qs hF h a w hsh
  obtain ⟨l,n,hl,h1,h7,rfl,hqs⟩:=Zag h
  show wpL Try.prog flK _ a w
  have d1:¬ ((n:Int) < 1):=by omega
  have d8:¬ ((7:Int) < (n:Int)):=by omega
  have rl:=r_len l
  by_cases hnl:n<=l.length
  ·rw [if_pos hnl] at hqs
   subst hqs
   have d2:¬ ((l.length:Int) < (n:Int)):=by omega
   rw [cutK]
   refine Zad names_ok mixed_ok fil.noOrc_ok kpre hsh ?_ (fun qs a1 w1 hq hx=>⟨fun _=>?_,fun h=>absurd rfl h⟩)
   ·simp [Zab,Zaa,Base.ev,SX.ev,evs,Value.oneCell',binPV,d1,d8,d2,rl]
   simp [evs,SX.ev] at hq
   subst hq
   show wpL Try.prog (.block _ (.loop _) :: flK.drop 6) _ a1 w1
   refine Zbj (fun m a w=>∃ i:Nat,m=n - i/\i<=n/\Zah C shK1 [pBy l,pI (n:Int),pI (num (l.take i)),pI (i:Int)] a w) ?_ (n:=n) ⟨0,by omega,by omega,by simpa [num] using hx⟩
   rintro m a w ⟨i,rfl,hi,hx⟩
   rw [<- List.append_nil (flat _)]
   by_cases hlt:i < n
   ·have v4:IntKind.i64.wrap ((i:Int)+1)=(i:Int)+1:=wrapI _ (by omega) (by omega)
    have cy:=cellY l i (by omega)
    have ix:=Zgp l i 1 .i64 (by omega) (by omega)
    have n0:=Ziw (l.take i)
    have n1:=Zuo (l.take i)
    have hn1:num (l.take i) < 281474976710656:=by
     have:(256:Int) ^ (l.take i).length<=256 ^ 6:=by
      have h6:(l.take i).length<=6:=by rw [List.length_take];omega
      exact_mod_cast Nat.pow_le_pow_right (n:=256) (by omega) h6
     omega
    have hb:=l[i].toNat_lt
    have wm:IntKind.i64.wrap (num (l.take i) * 256)=num (l.take i) * 256:=wrapI _ (by omega) (by omega)
    have wu:IntKind.i64.wrap (l[i].toNat:Int)=(l[i].toNat:Int):=wrapI _ (by omega) (by omega)
    have ws:IntKind.i64.wrap (num (l.take i) * 256+(l[i].toNat:Int))=num (l.take (i+1)):=by rw [wrapI _ (by omega) (by omega),num_take (by omega)]
    refine Zad names_ok mixed_ok fil.noOrc_ok ko hx ?_ (fun qs a1 wd hq hx=>⟨fun _=>.inl ⟨rfl,n - (i+1),by omega,i+1,rfl,by omega,?_⟩,fun h=>absurd rfl h⟩)
    ·simp [Zab,Zaa,Base.ev,SX.ev,evs,Value.oneCell',binPV,Zay,v4,cy,ix,wm,wu,ws,hlt]
    ·simp [evs,SX.ev,binPV,Zay,v4,cy,wm,wu,ws] at hq
     subst hq
     exact hx
   ·obtain rfl:i=n:=by omega
    refine Zad names_ok mixed_ok fil.noOrc_ok kx hx ?_ (fun qs a1 wd hq hx=>⟨nofun,fun _=>.inr (.inl ⟨rfl,?_⟩)⟩)
    ·simp [Zab,Zaa,Base.ev,SX.ev,evs,Value.oneCell',binPV]
    simp [evs,SX.ev] at hq
    subst hq
    rw [<- List.append_nil (flK.drop 6)]
    refine Zad names_ok mixed_ok fil.noOrc_ok kpost hx ?_ (fun qs a1 wd hq hx=>⟨nofun,fun _=>⟨.inr rfl,shKR,_,[SX.var 0,SX.var 1],hx,by kernel_rfl,?_⟩⟩)
    ·simp [Base.ev,SX.ev,evs,Value.oneCell']
    ·simp [evs,SX.ev] at hq
     subst hq
     rfl
  ·rw [if_neg hnl] at hqs
   subst hqs
   have d2:(l.length:Int) < (n:Int):=by omega
   rw [<- List.append_nil flK]
   refine Zad names_ok mixed_ok fil.noOrc_ok kn hsh ?_ (fun qs a1 w1 hq hx=>⟨nofun,fun _=>⟨.inr rfl,shKR,_,[SX.var 0,SX.var 1],hx,by kernel_rfl,?_⟩⟩)
   ·simp [Zab,Zaa,Base.ev,SX.ev,evs,Value.oneCell',binPV,d1,d8,d2,rl]
   ·simp [evs,SX.ev] at hq
    subst hq
    rfl

end Go.Proofs.Ytnomiffghidmbaa.rbt
end
end
