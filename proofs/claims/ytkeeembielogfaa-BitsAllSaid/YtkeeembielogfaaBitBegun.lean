/- Whether bits does anything yet: it does. -/
import Derived.Test.YtkeeembielogfaaBit5
namespace Go.Proofs.Ytkeeembielogfaa.bit
open Go.RowKit

theorem begun_any (w : World) : Calls Try.prog 6 #[] w fun e w' => e = .returned (.bool true) ∧ Ex w w' := by
  go_enter Try.func6, Try.ntmps6
  go_wp2_with fail
  refine (put_any _ [] 258 2 _ (RowV.nil _) (by simp)).mono ?_
  rintro e w1 ⟨u, rfl, hu, g1⟩
  rw [show [] ++ put 258 2 = [1, 2] by decide] at hu
  obtain ⟨a, cap, rfl, _, _⟩ := RowV.len8 hu
  simp only [List.length_cons, List.length_nil, Nat.reduceAdd] at hu
  have HU := Lib.hid hu
  clear hu
  go_wp2_with fail
  refine (take_any _ [1, 2] 2 _ HU.out (by decide)).mono ?_
  rintro e w2 ⟨rfl, g2⟩
  rw [show taken [1, 2] 2 = 258 by decide, show mayTake [1, 2].length 2 = true by decide]
  go_wp2_with fail
  refine (text_any _ [] ⟨#[97, 98]⟩ _ (RowV.nil _) (by simp)).mono ?_
  rintro e w3 ⟨u, rfl, hu, g3⟩
  rw [show [] ++ txt ⟨#[97, 98]⟩ = [2, 97, 98] by decide] at hu
  obtain ⟨a', cap', rfl, _, _⟩ := RowV.len8 hu
  simp only [List.length_cons, List.length_nil, Nat.reduceAdd] at hu
  have HU3 := Lib.hid hu
  clear hu
  go_wp2_with fail
  refine (takeText_any _ [2, 97, 98] _ HU3.out (by decide) (by simp)).mono ?_
  rintro e w4 ⟨rfl, g4⟩
  rw [show ofN (text [2, 97, 98]) = ⟨#[97, 98]⟩ by decide, show textN [2, 97, 98] = 3 by decide, show mayText [2, 97, 98] = true by decide]
  go_wp2_with fail
  refine (takeText_any _ [] _ (RowV.nil _) (by simp) (by simp)).mono ?_
  rintro e w5 ⟨rfl, g5⟩
  rw [show ofN (text []) = ⟨#[]⟩ by decide, show textN [] = 0 by decide, show mayText [] = false by decide]
  have hcv := conv_row _ [1, 2] w5 ((((HU.out.ex g2).ex g3).ex g4).ex g5) (by decide)
  rw [show ofN [1, 2] = ⟨#[1, 2]⟩ by decide] at hcv
  go_wp2_with fail
  go_ret
  exact ⟨rfl, ((((Ex.trans g1 g2).trans g3).trans g4).trans g5)⟩

end Go.Proofs.Ytkeeembielogfaa.bit
