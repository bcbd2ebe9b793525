/- The statements of vectors. -/
import Derived.Test.YtmgjbgingjiimaaVec2
import Derived.Test.YtmgjbgingjiimaaEq
import Derived.RegionTactic
import Derived.BigRegion
import Derived.ChangeAlike
import Derived.Deep.RegionWith
namespace Go.Proofs.Ytmgjbgingjiimaa
set_option linter.unusedVariables false
set_option linter.unusedSimpArgs false
open Go.ChangeShapes Go.WideShapes Go.ChangeAt Go.RowKit
theorem wf_fits {n : Int} (h : fits n = true) : (Lit.int .i64 n).wf = true := by
  obtain ⟨h1, h2⟩ := (fits_iff n).1 h
  simp only [Lit.wf, IntKind.min, IntKind.max, IntKind.signed, IntKind.bits, Bool.and_eq_true, decide_eq_true_eq, if_true]
  omega
theorem okInts : ∀ (l : List Int), (∀ k, fits (l.getD k 0) = true) → OkAll (List.replicate l.length (some .i64)) (ints l)
  | [], _ => trivial
  | z :: l, h => ⟨⟨z, rfl, wf_fits (h 0)⟩, okInts l (fun k => h (k + 1))⟩
theorem Blk.four {w : World} {g : Nat} {a b c d : Value} {t : TypeId} (h : Blk w g [a, b, c, d] t) : w.cell? ⟨g, 0, none⟩ = some a ∧ w.cell? ⟨g, 1, none⟩ = some b ∧ w.cell? ⟨g, 2, none⟩ = some c ∧ w.cell? ⟨g, 3, none⟩ = some d := ⟨h.cell 0, h.cell 1, h.cell 2, h.cell 3⟩
theorem flat_vec : flat Try.prog 2 53 = some (List.replicate 4 (some .i64)) := by kernel_rfl
theorem flat_id : flat Try.prog 2 55 = some (List.replicate 2 (some .i64)) := by kernel_rfl
theorem vec_equal (u v : List Int) (w : World) (hu : u.length = 4) (hv : v.length = 4) (fu : ∀ k, fits (u.getD k 0) = true) (fv : ∀ k, fits (v.getD k 0) = true) :
    (Op.equalIn 10000 53 (.agg (ints u).toArray) (.agg (ints v).toArray)).run Try.prog w = .ok (sameB (ints u) (ints v)) w := by
  have h1 := okInts u fu
  have h2 := okInts v fv
  rw [hu] at h1
  rw [hv] at h2
  exact equal_flat 2 2 53 _ _ _ w flat_vec (by kernel_rfl) h1 h2 (formed_of (by kernel_rfl) (by kernel_rfl) h1) (formed_of (by kernel_rfl) (by kernel_rfl) h2) 9998
theorem id_equal (u v : List Int) (w : World) (hu : u.length = 2) (hv : v.length = 2) (fu : ∀ k, fits (u.getD k 0) = true) (fv : ∀ k, fits (v.getD k 0) = true) :
    (Op.equalIn 10000 55 (.agg (ints u).toArray) (.agg (ints v).toArray)).run Try.prog w = .ok (sameB (ints u) (ints v)) w := by
  have h1 := okInts u fu
  have h2 := okInts v fv
  rw [hu] at h1
  rw [hv] at h2
  exact equal_flat 2 3 55 _ _ _ w flat_id (by kernel_rfl) h1 h2 (formed_of (by kernel_rfl) (by kernel_rfl) h1) (formed_of (by kernel_rfl) (by kernel_rfl) h2) 9997
set_option maxHeartbeats 1000000 in
theorem alive08 (w : World) : Calls Try.prog 30 #[] w fun e w' => e = .returned (.bool true) ∧ Below w.heap.size w w' := by
  have S0 : Sl (w.alloc (.cells #[.int .i64 1, .int .i64 2, .int .i64 0, .int .i64 0, .int .i64 0, .int .i64 0, .int .i64 0, .int .i64 0, .int .i64 0, .int .i64 1, .int .i64 1, .int .i64 0, .int .i64 0, .int .i64 0, .int .i64 0, .int .i64 0, .int .i64 0, .int .i64 0] 58)) (some ⟨w.heap.size, 0, none⟩) 2 9 (ints [1, 2, 0, 0, 0, 0, 0, 0, 0, 1, 1, 0, 0, 0, 0, 0, 0, 0]) := ⟨rfl, Or.inr ⟨_, _, rfl, by simp, fun j hj => by
    have h := cell_of_row _ _ j _ _ _ (heap_alloc_new w (.cells #[.int .i64 1, .int .i64 2, .int .i64 0, .int .i64 0, .int .i64 0, .int .i64 0, .int .i64 0, .int .i64 0, .int .i64 0, .int .i64 1, .int .i64 1, .int .i64 0, .int .i64 0, .int .i64 0, .int .i64 0, .int .i64 0, .int .i64 0, .int .i64 0] 58))
    rw [Nat.zero_add, h, List.getD_eq_getElem?_getD, show (ints [1, 2, 0, 0, 0, 0, 0, 0, 0, 1, 1, 0, 0, 0, 0, 0, 0, 0]) = (#[.int .i64 1, .int .i64 2, .int .i64 0, .int .i64 0, .int .i64 0, .int .i64 0, .int .i64 0, .int .i64 0, .int .i64 0, .int .i64 1, .int .i64 1, .int .i64 0, .int .i64 0, .int .i64 0, .int .i64 0, .int .i64 0, .int .i64 0, .int .i64 0] : Array Value).toList from rfl, Array.getElem?_toList, Array.getElem?_eq_getElem (show j < (#[.int .i64 1, .int .i64 2, .int .i64 0, .int .i64 0, .int .i64 0, .int .i64 0, .int .i64 0, .int .i64 0, .int .i64 0, .int .i64 1, .int .i64 1, .int .i64 0, .int .i64 0, .int .i64 0, .int .i64 0, .int .i64 0, .int .i64 0, .int .i64 0] : Array Value).size from hj)]
    rfl⟩⟩
  have C1 := Lib.hid (show Calls Try.prog 33 #[.slice (some ⟨w.heap.size, 0, none⟩) 2 2] (w.alloc (.cells #[.int .i64 1, .int .i64 2, .int .i64 0, .int .i64 0, .int .i64 0, .int .i64 0, .int .i64 0, .int .i64 0, .int .i64 0, .int .i64 1, .int .i64 1, .int .i64 0, .int .i64 0, .int .i64 0, .int .i64 0, .int .i64 0, .int .i64 0, .int .i64 0] 58)) fun e w' => e = .returned (.agg #[.int .i64 0, .int .i64 2, .int .i64 0, .int .i64 0]) ∧ Below (w.alloc (.cells #[.int .i64 1, .int .i64 2, .int .i64 0, .int .i64 0, .int .i64 0, .int .i64 0, .int .i64 0, .int .i64 0, .int .i64 0, .int .i64 1, .int .i64 1, .int .i64 0, .int .i64 0, .int .i64 0, .int .i64 0, .int .i64 0, .int .i64 0, .int .i64 0] 58)).heap.size (w.alloc (.cells #[.int .i64 1, .int .i64 2, .int .i64 0, .int .i64 0, .int .i64 0, .int .i64 0, .int .i64 0, .int .i64 0, .int .i64 0, .int .i64 1, .int .i64 1, .int .i64 0, .int .i64 0, .int .i64 0, .int .i64 0, .int .i64 0, .int .i64 0, .int .i64 0] 58)) w' from of_any _ 2 2 _ _ S0 (by decide))
  have C2 := Lib.hid (fun w => show Calls Try.prog 34 #[.agg #[.int .i64 0, .int .i64 2, .int .i64 0, .int .i64 0], .agg #[.int .i64 1, .int .i64 2]] w fun e w' => e = .returned (.bool true) ∧ Below w.heap.size w w' from has_any [0, 2, 0, 0] 1 2 w (Lib.hid rfl))
  have C3 := Lib.hid (fun w => show Calls Try.prog 39 #[.agg #[.int .i64 0, .int .i64 2, .int .i64 0, .int .i64 0], .agg #[.int .i64 1, .int .i64 0, .int .i64 0, .int .i64 0]] w fun e w' => e = .returned (.bool false) ∧ Below w.heap.size w w' from covers_any [0, 2, 0, 0] [1, 0, 0, 0] w (Lib.hid rfl) (Lib.hid rfl))
  have C4 := Lib.hid (fun w => show Calls Try.prog 37 #[.agg #[.int .i64 0, .int .i64 2, .int .i64 0, .int .i64 0], .int .i64 1] w fun e w' => e = .returned (.agg #[.int .i64 1, .int .i64 3]) ∧ Below w.heap.size w w' from next_any [0, 2, 0, 0] 1 w (Lib.hid rfl) (by intro k; rcases k with _ | _ | _ | _ | k <;> rfl))
  have e1 := fun w => show (Op.equalIn 10000 53 (.agg #[.int .i64 0, .int .i64 2, .int .i64 0, .int .i64 0]) (.agg #[.int .i64 0, .int .i64 2, .int .i64 0, .int .i64 0])).run Try.prog w = .ok true w from vec_equal [0, 2, 0, 0] [0, 2, 0, 0] w rfl rfl (by intro k; rcases k with _ | _ | _ | _ | k <;> rfl) (by intro k; rcases k with _ | _ | _ | _ | k <;> rfl)
  have e2 := fun w => show (Op.equalIn 10000 55 (.agg #[.int .i64 1, .int .i64 3]) (.agg #[.int .i64 1, .int .i64 3])).run Try.prog w = .ok true w from id_equal [1, 3] [1, 3] w rfl rfl (by intro k; rcases k with _ | _ | k <;> rfl) (by intro k; rcases k with _ | _ | k <;> rfl)
  have HB := Lib.hid ((Below.refl w.heap.size w).alloc (Nat.le_refl _) (.cells #[.int .i64 1, .int .i64 2, .int .i64 0, .int .i64 0, .int .i64 0, .int .i64 0, .int .i64 0, .int .i64 0, .int .i64 0, .int .i64 1, .int .i64 1, .int .i64 0, .int .i64 0, .int .i64 0, .int .i64 0, .int .i64 0, .int .i64 0, .int .i64 0] 58))
  go_enter Try.func30, Try.ntmps30
  go_wp2_with fail
  refine C1.out.mono ?_
  rintro e w2 ⟨rfl, hb2⟩
  have HB2 := Lib.hid (HB.out.trans (hb2.mono HB.out.size))
  clear hb2 C1 S0 HB
  have B2 := Blk.new w2 #[.int .i64 0, .int .i64 2, .int .i64 0, .int .i64 0] 53
  have HB3 := Lib.hid (HB2.out.alloc HB2.out.size (.cells #[.int .i64 0, .int .i64 2, .int .i64 0, .int .i64 0] 53))
  go_upto_region 2 with fail
  generalize w2.alloc (.cells #[.int .i64 0, .int .i64 2, .int .i64 0, .int .i64 0] 53) = w3 at *
  obtain ⟨c0, c1, c2, c3⟩ := B2.four
  have HBB := Lib.hid B2
  clear B2 HB2
  go_wp2_with fail
  refine (C2.out _).mono ?_
  rintro e w4 ⟨rfl, hb4⟩
  clear c0 c1 c2 c3 C2
  have B4 := Lib.hid (HBB.out.keep hb4 HBB.out.lt)
  have HB4 := Lib.hid (HB3.out.trans (hb4.mono HB3.out.size))
  clear hb4 HBB HB3
  obtain ⟨c0, c1, c2, c3⟩ := B4.out.four
  go_wp2_with fail
  refine (C3.out _).mono ?_
  rintro e w5 ⟨rfl, hb5⟩
  clear c0 c1 c2 c3 C3
  have B5 := Lib.hid (B4.out.keep hb5 B4.out.lt)
  have HB5 := Lib.hid (HB4.out.trans (hb5.mono HB4.out.size))
  clear hb5 B4 HB4
  obtain ⟨c0, c1, c2, c3⟩ := B5.out.four
  go_wp2_with fail
  refine (C4.out _).mono ?_
  rintro e w6 ⟨rfl, hb6⟩
  have HB6 := Lib.hid (HB5.out.trans (hb6.mono HB5.out.size))
  clear hb6 c0 c1 c2 c3 C4 B5 HB5
  go_wp2_with fail
  go_ret
  exact ⟨rfl, HB6.out⟩
end Go.Proofs.Ytmgjbgingjiimaa
