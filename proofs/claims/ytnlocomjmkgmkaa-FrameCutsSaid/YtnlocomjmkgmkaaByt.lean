/- Octets of our own: small rows. -/
import Derived.Test.YtnlocomjmkgmkaaApp
import Derived.Test.YtnlocomjmkgmkaaLaw03
namespace Go.Proofs.Ytnlocomjmkgmkaa
set_option linter.unusedVariables false
set_option linter.unusedSimpArgs false
open Go.ChangeShapes Go.WideShapes Go.ChangeAt Go.RowKit
theorem u8i : (Try.prog.info? 5).map (fun i => (i.zero, i.size, i.bytes)) = some (some (.int .u8 0), 1, 1) := by kernel_rfl
theorem blit_sl (w : World) (vs : List Value) (hv : 0 < vs.length) : Sl (w.alloc (.cells vs.toArray 5)) (some ⟨w.heap.size, 0, none⟩) vs.length 1 vs := by
  refine ⟨by omega, Or.inr ⟨_, _, rfl, by simp, fun j hj => ?_⟩⟩
  rw [Nat.zero_add, cell_of_row _ _ j _ _ _ (heap_alloc_new _ _), List.getD_eq_getElem?_getD, List.getElem?_eq_getElem (by omega)]
  simp [List.getElem?_eq_getElem (show j < vs.length by omega)]
theorem bown_lit (w : World) (vs : List Value) (hv : vs.length ≤ 1000) : (w.alloc (.cells vs.toArray 5)).ownsRow w.heap.size 5 1 (.slice (some ⟨w.heap.size, 0, none⟩) vs.length vs.length) vs.length vs :=
  ⟨by omega, Or.inr ⟨w.heap.size, vs.length, vs.toArray, rfl, Nat.le_refl _, heap_alloc_new _ _, Nat.le_refl _, by simp only [maxLen]; omega, by simp, by simp⟩⟩
theorem bown_nil (w : World) (B : Nat) (e : TypeId) (sz : Nat) : w.ownsRow B e sz (.slice none 0 0) 0 [] := ⟨by simp, Or.inl ⟨rfl, rfl⟩⟩
theorem sl_none {w : World} {a : Option Addr} {n c : Nat} {bs : List UInt8} {base : Nat} {e : TypeId} (h : w.ownsRow base e 1 (.slice a n c) n (bcells bs)) : a = none → c = 0 := by
  intro h0
  rcases h.2 with ⟨hv, _⟩ | ⟨g, cap, cur, hv, _⟩
  · injection hv
  · injection hv with e1 e2 e3
    rw [h0] at e1; cases e1
theorem bsl_one {w : World} {a : Option Addr} {n : Nat} {bs : List UInt8} (h : Sl w a n 1 (bcells bs)) : bs.length = n := by have := h.1; rw [bcells_len] at this; omega
/-- the frame of octets. -/
def frameOf (bs : List UInt8) : List UInt8 := beOf bs.length 2 ++ crcPutOf bs ++ [90]
theorem frameOf_len (bs : List UInt8) : (frameOf bs).length = bs.length + 7 := by simp [frameOf, crcPutOf, beOf_len]; omega
end Go.Proofs.Ytnlocomjmkgmkaa
