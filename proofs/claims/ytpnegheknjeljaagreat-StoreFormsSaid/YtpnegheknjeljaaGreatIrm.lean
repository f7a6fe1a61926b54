/- What is read of bytes, and what was put (package image): no program. -/
import Derived.Test.YtpnegheknjeljaaGreatIrs
namespace Go.Proofs.YtpnegheknjeljaaGreat.irs
open Go Go.RowKit eng SX Fact fil ima symD bip ird sta ise
open dirs (encF cellF FileM)
set_option linter.unusedVariables false
set_option linter.unusedSimpArgs false

def rdS (l:List UInt8):Rd StM:=match nB 4 l with
 | .error e=>.error e
 | .ok (ep,l1)=>match goR rdM 3 0 (List.replicate 3 m0) l1 with
  | .error e=>.error e
  | .ok (ms,l2)=>match goR rdF 6 0 (List.replicate 6 f00) l2 with
   | .error e=>.error e
   | .ok (fs,l3)=>.ok (⟨fs,ms,ep⟩,l3)
theorem ans_ok {l r:List UInt8} {s:StM} (h:rdS l=.ok (s,r)):ansE (nB 4 l)=pI 0 :: (pSt s++[pBy r]):=by
 unfold rdS at h
 split at h
 ·cases h
 rename_i ep l1 h1
 split at h
 ·cases h
 rename_i ms l2 h2
 split at h
 ·cases h
 rename_i fs l3 h3
 cases h
 simp only [h1,ansE,h2,ansM,h3,ansF,pSt,List.cons_append,List.nil_append]
theorem rdM_err {l:List UInt8} {e:Int × List UInt8} (h:rdM l=.error e):e.1=1 \/ e.1=2:=by
 obtain ⟨j,r⟩:=e
 unfold rdM at h
 split at h
 ·rename_i h1;cases h;exact .inl (Zid h1)
 split at h
 ·rename_i h1;cases h;exact .inl (Zid h1)
 split at h
 ·rename_i h1;cases h;exact .inl (Zid h1)
 split at h
 ·rename_i h1;cases h;exact .inl (Zid h1)
 cases h
theorem rdF_err {l:List UInt8} {e:Int × List UInt8} (h:rdF l=.error e):e.1=1 \/ e.1=2:=by
 obtain ⟨j,r⟩:=e
 unfold rdF at h
 split at h
 ·rename_i h1;cases h;exact Zqw h1
 split at h
 ·rename_i h1;cases h;exact .inl (Zid h1)
 split at h
 ·rename_i h1;cases h;exact Zqw h1
 cases h
theorem Zo4 {α:Type} {rd:List UInt8->Rd α} (hr:∀ {l:List UInt8} {e:Int × List UInt8},rd l=.error e->e.1=1 \/ e.1=2):∀ (n i:Nat) (xs:List α) (l:List UInt8) (e:Int × List UInt8),goR rd n i xs l=.error e->e.1=1 \/ e.1=2
 | 0,i,xs,l,e,h=>by simp [goR] at h
 | n+1,i,xs,l,e,h=>by
  unfold goR at h
  split at h
  ·rename_i h1;cases h;exact hr h1
  ·exact Zo4 hr n _ _ _ _ h
theorem ans_err {l:List UInt8} {e:Int × List UInt8} (h:rdS l=.error e):(e.1=1 \/ e.1=2)/\ansE (nB 4 l)=[pI e.1,pBy e.2]:=by
 unfold rdS at h
 split at h
 ·rename_i e' h1
  cases h
  obtain ⟨j,r⟩:=e
  exact ⟨.inl (Zid h1),by simp only [h1,ansE]⟩
 rename_i ep l1 h1
 split at h
 ·rename_i e' h2
  cases h
  refine ⟨Zo4 rdM_err _ _ _ _ _ h2,?_⟩
  obtain ⟨j,r⟩:=e
  simp only [h1,ansE,h2,ansM]
 rename_i ms l2 h2
 split at h
 ·rename_i e' h3
  cases h
  refine ⟨Zo4 rdF_err _ _ _ _ _ h3,?_⟩
  obtain ⟨j,r⟩:=e
  simp only [h1,ansE,h2,ansM,h3,ansF]
 cases h

theorem Zof {v:Int} {n:Nat} (h0:0<=v) (h1:v < 256 ^ n) (r:List UInt8):nB n (low v n++r)=.ok (v,r):=by
 have hl:n<=(low v n++r).length:=by simp
 have e2:(low v n++r).drop n=r:=by have:=Zca (a:=low v n) (b:=r) (n:=n) 0 (Zdp _ _);rw [Nat.add_zero,List.drop_zero] at this;exact this
 rw [nB,if_pos hl,Zh4 (by simp),Zef h0 h1,e2]
theorem tB_tx {m:Nat} {a:ByteArray} (h:a.size<=m) (hm:m<=254) (r:List UInt8):tB (m+1) (txB m a++r)=.ok (a,r):=by
 have h1:(UInt8.ofNat a.size).toNat=a.size:=by rw [UInt8.toNat_ofNat'];omega
 have hln:=Zdn h
 have hL:(txB m a++r).length=m+1+r.length:=by rw [List.length_append,hln]
 have hg:((txB m a++r).getD 0 0).toNat=a.size:=by simp only [txB,List.cons_append,List.getD_cons_zero,h1]
 have hmt:mayT (txB m a++r)=true:=by
  unfold mayT
  rw [hg,hL,decide_eq_true (by omega),decide_eq_true (by omega)];rfl
 have htx:txL (txB m a++r)=a:=by
  have:txL (txB m a++r)=ofL (((txB m a++r).drop 1).take a.size):=by rw [txL,hg];rfl
  rw [this]
  apply Zqd
  rw [Znm]
  simp only [txB,List.cons_append,List.drop_succ_cons,List.drop_zero]
  rw [List.append_assoc,List.take_append_of_le_length (by simp),List.take_of_length_le (by simp)]
 have hdr:(txB m a++r).drop (m+1)=r:=by have:=Zca (a:=txB m a) (b:=r) (n:=m+1) 0 hln;rw [Nat.add_zero,List.drop_zero] at this;exact this
 rw [tB,if_pos hmt,if_pos (by rw [hL];omega),htx,hdr]
theorem rdM_mk {m:MarkM} (h:0<=m.1/\m.1<=1073741824/\0<=m.2.1/\m.2.1<=3/\0<=m.2.2.1/\m.2.2.1<=6/\0<=m.2.2.2/\m.2.2.2<=1073741824) (r:List UInt8):rdM (mkB m++r)=.ok (m,r):=by
 obtain ⟨a,b,c,d⟩:=m
 simp only at h
 unfold rdM mkB
 simp only [List.append_assoc]
 rw [Zof h.1 (by omega)]
 simp only
 rw [Zof h.2.2.1 (by omega)]
 simp only
 rw [Zof (by omega) (by omega)]
 simp only
 rw [Zof (by omega) (by omega)]
theorem rdF_fl {f:FileM} (h1:f.1.size<=8) (h2:f.2.2.size<=24) (h3:0<=f.2.1) (h4:f.2.1<=1073741824) (r:List UInt8):rdF (ima.flB f++r)=.ok (f,r):=by
 obtain ⟨a,v,b⟩:=f
 simp only at h1 h2 h3 h4
 unfold rdF ima.flB
 simp only [List.append_assoc]
 rw [tB_tx (m:=8) h1 (by omega)]
 simp only
 rw [Zof h3 (by omega)]
 simp only
 rw [tB_tx (m:=24) h2 (by omega)]
theorem Zqh {α:Type} {rd:List UInt8->Rd α} {enc:α->List UInt8} (ys:List α) (hr:∀ y ∈ ys,∀ r,rd (enc y++r)=.ok (y,r)):∀ (n i:Nat) (xs:List α) (r:List UInt8),i+n=ys.length->xs.length=ys.length->(∀ j,j < i->xs[j]?=ys[j]?) →
  goR rd n i xs (((ys.drop i).map enc).flatten++r)=.ok (ys,r)
 | 0,i,xs,r,hn,hl,hp=>by
  have:xs=ys:=List.ext_getElem? fun j=>by
   by_cases hj:j < i
   ·exact hp j hj
   ·rw [List.getElem?_eq_none (by omega),List.getElem?_eq_none (by omega)]
  subst this
  rw [List.drop_of_length_le (by omega)]
  rfl
 | n+1,i,xs,r,hn,hl,hp=>by
  have hi:i < ys.length:=by omega
  rw [List.drop_eq_getElem_cons hi,List.map_cons,List.flatten_cons,List.append_assoc,Zrp (hr _ (List.getElem_mem hi) _)]
  refine Zqh ys hr n (i+1) _ r (by omega) (by simpa using hl) fun j hj=>?_
  by_cases h:j=i
  ·subst h
   rw [List.getElem?_set_self (by omega),List.getElem?_eq_getElem hi]
  ·rw [List.getElem?_set_ne (by omega)]
   exact hp j (by omega)
theorem rd_img {s:StM} (h:MayS s):rdS (imgB s)=.ok (s,nul 26):=by
 unfold rdS imgB
 rw [Zof h.ep.1 (by have:=h.ep.2;omega)]
 simp only
 have e1:=Zqh (rd:=rdM) (enc:=mkB) s.marks (fun m hm r=>rdM_mk (h.mv m hm) r) 3 0 (List.replicate 3 m0) ((s.files.map ima.flB).flatten++nul 26) (by rw [h.ml]) (by rw [h.ml];rfl) (fun j hj=>absurd hj (Nat.not_lt_zero j))
 rw [List.drop_zero] at e1
 rw [e1]
 simp only
 have e2:=Zqh (rd:=rdF) (enc:=ima.flB) s.files (fun f hf r=>by obtain ⟨a,b,c,d⟩:=Zeu h hf;exact rdF_fl a b c d r) 6 0 (List.replicate 6 f00) (nul 26) (by rw [h.fl]) (by rw [h.fl];rfl) (fun j hj=>absurd hj (Nat.not_lt_zero j))
 rw [List.drop_zero] at e2
 rw [e2]
theorem take_err {l:List ByteArray} {e:Int × List UInt8} (h:rdS (catB l)=.error e):takeI l=none:=by
 cases ht:takeI l with
 | none=>rfl
 | some t =>
  obtain ⟨hm,rfl⟩:=Zjt.1 ht
  rw [Zpc hm,rd_img hm] at h
  cases h
open Classical in
theorem take_ok {l:List ByteArray} {s:StM} {r:List UInt8} (h:rdS (catB l)=.ok (s,r)):takeI l=if MayS s/\putI s=l then some s else none:=by
 split
 ·rename_i hs
  exact Zjt.2 hs
 ·rename_i hs
  cases ht:takeI l with
  | none=>rfl
  | some t =>
   obtain ⟨hm,rfl⟩:=Zjt.1 ht
   rw [Zpc hm,rd_img hm] at h
   cases h
   exact absurd ⟨hm,rfl⟩ hs
theorem take_full {l:List ByteArray} (h:¬ ∀ a ∈ l,a.size=32):takeI l=none:=by
 cases ht:takeI l with
 | none=>rfl
 | some t =>
  obtain ⟨hm,rfl⟩:=Zjt.1 ht
  exact absurd putI_size h

end Go.Proofs.YtpnegheknjeljaaGreat.irs
