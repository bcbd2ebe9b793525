/- The statements of vectors. -/
import Derived.Test.YtalbkpahphndiaaVec2
import Derived.Test.YtalbkpahphndiaaEq
import Derived.RegionTactic
import Derived.BigRegion
import Derived.ChangeAlike
import Derived.Deep.RegionWith
namespace Go.Proofs.Ytalbkpahphndiaa
set_option linter.unusedVariables false
set_option linter.unusedSimpArgs false
open Go.ChangeShapes Go.WideShapes Go.ChangeAt Go.RowKit
theorem wf_fits {n : Int} (h : fits n = true) : (Lit.int .i64 n).wf = true := by
  obtain ⟨h1, h2⟩ := (fits_iff n).1 h
  simp only [Lit.wf, IntKind.min, IntKind.max, IntKind.signed, IntKind.bits, Bool.and_eq_true, decide_eq_true_eq, if_true]
  omega
theorem okInts : ∀ (l : List Int), (∀ k, fits (l.getD k 0) = true) → OkAll (List.replicate l.length (some .i64)) (ints l)
  | [], _ => trivial
  | z :: l, h => ⟨⟨z, rfl, wf_fits (h 0)⟩, okInts l (fun k => h (k + 1))⟩
theorem Blk.four {w : World} {g : Nat} {a b c d : Value} {t : TypeId} (h : Blk w g [a, b, c, d] t) : w.cell? ⟨g, 0, none⟩ = some a ∧ w.cell? ⟨g, 1, none⟩ = some b ∧ w.cell? ⟨g, 2, none⟩ = some c ∧ w.cell? ⟨g, 3, none⟩ = some d := ⟨h.cell 0, h.cell 1, h.cell 2, h.cell 3⟩
theorem flat_vec : flat Try.prog 2 71 = some (List.replicate 4 (some .i64)) := by kernel_rfl
theorem flat_id : flat Try.prog 2 23 = some (List.replicate 2 (some .i64)) := by kernel_rfl
theorem vec_equal (u v : List Int) (w : World) (hu : u.length = 4) (hv : v.length = 4) (fu : ∀ k, fits (u.getD k 0) = true) (fv : ∀ k, fits (v.getD k 0) = true) :
    (Op.equalIn 10000 71 (.agg (ints u).toArray) (.agg (ints v).toArray)).run Try.prog w = .ok (sameB (ints u) (ints v)) w := by
  have h1 := okInts u fu
  have h2 := okInts v fv
  rw [hu] at h1
  rw [hv] at h2
  exact equal_flat 2 2 71 _ _ _ w flat_vec (by kernel_rfl) h1 h2 (formed_of (by kernel_rfl) (by kernel_rfl) h1) (formed_of (by kernel_rfl) (by kernel_rfl) h2) 9998
theorem id_equal (u v : List Int) (w : World) (hu : u.length = 2) (hv : v.length = 2) (fu : ∀ k, fits (u.getD k 0) = true) (fv : ∀ k, fits (v.getD k 0) = true) :
    (Op.equalIn 10000 23 (.agg (ints u).toArray) (.agg (ints v).toArray)).run Try.prog w = .ok (sameB (ints u) (ints v)) w := by
  have h1 := okInts u fu
  have h2 := okInts v fv
  rw [hu] at h1
  rw [hv] at h2
  exact equal_flat 2 3 23 _ _ _ w flat_id (by kernel_rfl) h1 h2 (formed_of (by kernel_rfl) (by kernel_rfl) h1) (formed_of (by kernel_rfl) (by kernel_rfl) h2) 9997
end Go.Proofs.Ytalbkpahphndiaa
