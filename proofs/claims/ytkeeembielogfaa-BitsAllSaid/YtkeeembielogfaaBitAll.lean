/- BitsAll: how numbers and texts are bytes, and which bytes are. No condition. -/
import Derived.Test.YtkeeembielogfaaRows
import Derived.Test.YtkeeembielogfaaBitBegun
import Derived.Test.YtkeeembielogfaaFrame
import Derived.Deep.RegionHeld
import Derived.Deep.DrawnRows
namespace Go.Proofs.Ytkeeembielogfaa.bitsAll
open Go.ChangeShapes Go.WideShapes Go.ChangeAt Go.RowKit
open bit
attribute [local go_sem ↓] Go.wp_at_zero Go.wp_at_succ

theorem ex_alloc (w : World) (o : Obj) : Ex w (w.alloc o) := (Below.refl _ _).alloc (Nat.le_refl _) o
theorem ex_drew (w : World) : Ex w w.drew := (Below.refl _ _).drew
/-- A cell holds this number, and all that was there is as it was. -/
def H1 (W : World) (q k : Nat) (N : Int) (w : World) : Prop := w.cell? ⟨q, k, none⟩ = some (.int .i64 N) ∧ Ex W w
theorem H1.ex {W w w' : World} {q k : Nat} {N : Int} (h : H1 W q k N w) (g : Ex w w') : H1 W q k N w' := ⟨g.on h.1, Ex.trans h.2 g⟩

theorem H1.up {W : World} {q k : Nat} {N : Int} {w : World} (h : H1 W q k N w) : Ex W w := h.2

def RAll (W : World) (i : Value) (wr : World) : Prop := ∃ k : Nat, k ≤ 3 ∧ i = .int .i64 k ∧ Ex W wr

set_option maxRecDepth 100000 in
set_option maxHeartbeats 4000000 in
theorem walk (w : World) (v : Int) (_wv : (Lit.int .i64 v).wf = true) (n : Int) (_wn : (Lit.int .i64 n).wf = true) (K : Int) (wK : (Lit.int .u8 K).wf = true) (s : ByteArray) (hs : s.size ≤ maxLen)
    (v4 : Value) (len4 : Nat) (Z4 : Nat → Int) (h4 : IsRow .u8 w v4 len4 Z4) (v5 : Value) (len5 : Nat) (Z5 : Nat → Int) (h5 : IsRow .u8 w v5 len5 Z5) :
    Calls Try.prog 3 #[.int .i64 v, .int .i64 n, .int .u8 K, .string s, v4, v5] w fun e w' => e = .returned (.bool true) ∧ Ex w w' := by
  obtain ⟨zs, rfl, hz, hrow⟩ := row_u8 h4
  obtain ⟨fs, rfl, hf, hrow5⟩ := row_u8 h5
  have HZ := Lib.hid hz
  have HF := Lib.hid hf
  clear hz hf h4 h5
  obtain ⟨a, cap, rfl, hlc, hcm⟩ := RowV.len8 hrow
  obtain ⟨a5, cap5, rfl, hlc5, hcm5⟩ := RowV.len8 hrow5
  have HR := Lib.hid hrow
  have HR5 := Lib.hid hrow5
  clear hrow hrow5
  unfold maxLen at hs
  have k0 := (bounds_u8 wK).1
  have k1 := (bounds_u8 wK).2
  clear wK
  by_cases hl : s.size ≤ 300
  · have d1 : decide ((300 : Int) < (s.size : Int)) = false := decide_eq_false (by omega)
    by_cases hb : zs.length ≤ 20
    · have d2 : decide ((20 : Int) < (zs.length : Int)) = false := decide_eq_false (by omega)
      by_cases hb5 : fs.length ≤ 5
      · have d3 : decide ((5 : Int) < (fs.length : Int)) = false := decide_eq_false (by omega)
        obtain ⟨r, hr⟩ : ∃ r : Nat, K % 10 = (r : Int) := ⟨(K % 10).toNat, by omega⟩
        go_enter Try.func3, Try.ntmps3
        go_wp2_with fail
        refine (begun_any _).mono ?_
        rintro e w1 ⟨rfl, g1⟩
        go_wp2_with fail
        have hc0 : ∀ k, k < 3 → ∃ N : Int, (w1.alloc (.cells #[.int .i64 n, .int .i64 (r : Int), .int .i64 4] 3)).cell? ⟨w1.heap.size, k, none⟩ = some (.int .i64 N) := by
          intro k hk
          rcases (show k = 0 ∨ k = 1 ∨ k = 2 by omega) with rfl | rfl | rfl
          · exact ⟨n, by simp [go_sem]⟩
          · exact ⟨(r : Int), by simp [go_sem]⟩
          · exact ⟨4, by simp [go_sem]⟩
        have gW := Ex.trans g1 (ex_alloc w1 (.cells #[.int .i64 n, .int .i64 (r : Int), .int .i64 4] 3))
        have HC := Lib.hid hc0
        clear hc0
        generalize hW : w1.alloc (.cells #[.int .i64 n, .int .i64 (r : Int), .int .i64 4] 3) = W at *
        generalize hq : w1.heap.size = q at *
        rw [hr]
        clear hW hq g1 hr
        go_loopw [14] (RAll W) (fun i _ => 3 - (intOf i).toNat)
        case atStart => exact ⟨0, by omega, rfl, Ex.refl _⟩
        case round =>
          obtain ⟨k, hk, rfl, gk⟩ := hrel
          by_cases hlt : k < 3
          · obtain ⟨N, hN⟩ := HC.out k hlt
            have ck := gk.on hN
            have H0 : H1 wr q k N wr := ⟨ck, Ex.refl _⟩
            have i0' : (0 : Int) ≤ (k : Int) := by omega
            have i1' : (k : Int) < 3 := by omega
            clear hN
            go_wp2_with fail
            refine (take_any _ zs N _ (HR.out.ex (Ex.trans gW gk)) HZ.out).mono ?_
            rintro e w2 ⟨rfl, g2⟩
            have ck2 := g2.on ck
            generalize hT : taken zs N = t
            generalize hM : mayTake zs.length N = mm
            have HT := Lib.hid hT
            have HM := Lib.hid hM
            clear ck H0 hT hM
            go_wp2_with fail
            refine (refTake_any _ zs N _ (HR.out.ex (Ex.trans gW (Ex.trans gk g2))) HZ.out).mono ?_
            rintro e w3 ⟨rfl, g3⟩
            rw [HT.out, HM.out]
            have ck := g3.on ck2
            clear ck2
            have H0 : H1 w3 q k N w3 := ⟨ck, Ex.refl _⟩
            have G3 := Ex.trans gk (Ex.trans g2 g3)
            have hrf := HR5.out.ex (Ex.trans gW G3)
            have HP := Lib.hid (fun (w' : World) (g : Ex w3 w') => put_any _ fs v N w' (hrf.ex g) (by omega))
            have HQ := Lib.hid (fun (w' : World) (g : Ex w3 w') => refPut_any _ fs v N w' (hrf.ex g) (by omega))
            have kcv : ∀ (u : Value) (w' : World), RowV w' u (u8s (fs ++ put v N)) → (convert 22 9 u).run Try.prog w' = .ok (.string (ofN (fs ++ put v N))) w' := fun u w' h =>
              conv_row u _ w' h (fun z hz => by rcases List.mem_append.1 hz with hz | hz; exact HF.out z hz; exact put_lt _ _ z hz)
            clear hrf
            generalize ofN (fs ++ put v N) = T at *
            generalize fs ++ put v N = S at *
            go_wp2_with fail
            go_region_held (fun w' => w'.cell? ⟨q, k, none⟩ = some (.int .i64 N) ∧ Ex w3 w')
              (first | exact H0 | exact H1.ex H0 (ex_drew _) | exact H1.ex (by assumption) (by assumption) | exact H1.ex (by assumption) (ex_alloc _ _) | assumption)
              (first
                | (go_at_call 9; refine (HP.out _ (@H1.up w3 q k N _ (by assumption))).mono ?_; rintro e w' ⟨x1, rfl, hx1, gx1⟩)
                | (go_at_call 10; refine (HQ.out _ (@H1.up w3 q k N _ (by assumption))).mono ?_; rintro e w' ⟨x2, rfl, hx2, gx2⟩; (try have hx1b := RowV.ex hx1 gx2)))
            all_goals
              have gk2 := @H1.up w3 q k N _ (by assumption)
              clear HP HQ kcv H0
              go_wp2_with fail
              go_roundw
              case rel => exact ⟨k + 1, by omega, by go_num, Ex.trans G3 gk2⟩
              case measure => simp [intOf]; omega
          · have i1' : ¬ (k : Int) < 3 := by omega
            clear HC
            go_wp2_with fail
            refine (takeText_any _ zs _ (HR.out.ex (Ex.trans gW gk)) HZ.out (by omega)).mono ?_
            rintro e w2 ⟨rfl, g2⟩
            generalize hT : ofN (text zs) = t
            generalize hN : textN zs = tn
            generalize hM : mayText zs = mm
            have HT := Lib.hid hT
            have HN := Lib.hid hN
            have HM := Lib.hid hM
            clear hT hM hN
            go_wp2_with fail
            refine (refText_take_any _ zs _ (HR.out.ex (Ex.trans gW (Ex.trans gk g2))) HZ.out).mono ?_
            rintro e w3 ⟨rfl, g3⟩
            rw [HT.out, HM.out, HN.out]
            have G3 := Ex.trans gk (Ex.trans g2 g3)
            have hrf := HR5.out.ex (Ex.trans gW G3)
            have HP := Lib.hid (fun (w' : World) (g : Ex w3 w') => text_any _ fs s w' (hrf.ex g) (by omega))
            have HQ := Lib.hid (fun (w' : World) (g : Ex w3 w') => refText_any _ fs s w' (hrf.ex g) (by omega) (by omega))
            have kcv : ∀ (u : Value) (w' : World), RowV w' u (u8s (fs ++ txt s)) → (convert 22 9 u).run Try.prog w' = .ok (.string (ofN (fs ++ txt s))) w' := fun u w' h =>
              conv_row u _ w' h (fun z hz => by rcases List.mem_append.1 hz with hz | hz; exact HF.out z hz; exact txt_lt _ z hz)
            clear hrf
            generalize ofN (fs ++ txt s) = T at *
            generalize fs ++ txt s = S at *
            have H0 : True ∧ Ex w3 w3 := ⟨trivial, Ex.refl _⟩
            go_wp2_with fail
            go_region_held (fun w' => True ∧ Ex w3 w')
              (first | exact ⟨trivial, ex_drew _⟩ | exact ⟨trivial, Ex.trans (@And.right True _ (by assumption)) (by assumption)⟩ | assumption)
              (first
                | (go_at_call 13; refine (HP.out _ (@And.right True _ (by assumption))).mono ?_; rintro e w' ⟨x1, rfl, hx1, gx1⟩)
                | (go_at_call 14; refine (HQ.out _ (@And.right True _ (by assumption))).mono ?_; rintro e w' ⟨x2, rfl, hx2, gx2⟩; (try have hx1b := RowV.ex hx1 gx2)))
            all_goals
              have gk3 := @And.right True (Ex w3 _) (by assumption)
              clear HP HQ kcv
              go_wp2_with fail
              go_ret
              exact ⟨rfl, Ex.trans gW (Ex.trans G3 gk3)⟩
      · have d3 : decide ((5 : Int) < (fs.length : Int)) = true := decide_eq_true (by omega)
        go_enter Try.func3, Try.ntmps3
        go_wp2_with fail
        refine (begun_any _).mono ?_
        rintro e w1 ⟨rfl, g1⟩
        go_wp2_with fail
        go_ret
        exact ⟨rfl, g1⟩
    · have d2 : decide ((20 : Int) < (zs.length : Int)) = true := decide_eq_true (by omega)
      go_enter Try.func3, Try.ntmps3
      go_wp2_with fail
      refine (begun_any _).mono ?_
      rintro e w1 ⟨rfl, g1⟩
      go_wp2_with fail
      go_ret
      exact ⟨rfl, g1⟩
  · have d1 : decide ((300 : Int) < (s.size : Int)) = true := decide_eq_true (by omega)
    go_enter Try.func3, Try.ntmps3
    go_wp2_with fail
    refine (begun_any _).mono ?_
    rintro e w1 ⟨rfl, g1⟩
    go_wp2_with fail
    go_ret
    exact ⟨rfl, g1⟩

end Go.Proofs.Ytkeeembielogfaa.bitsAll
