/- What vectors know of changes. -/
import Derived.Test.YteebmpbplenikaaDoorVec
import Derived.Test.YteebmpbplenikaaDoorRd
import Derived.Test.YteebmpbplenikaaDoorRow
namespace Go.Proofs.YteebmpbplenikaaDoor
set_option linter.unusedVariables false
set_option linter.unusedSimpArgs false
open Go.ChangeShapes Go.WideShapes Go.ChangeAt Go.RowKit
def isRep (r : Int) : Bool := decide (0 ≤ r) && decide (r < 4)
theorem isRep_true {r : Int} (h : isRep r = true) : 0 ≤ r ∧ r < 4 := by simpa [isRep] using h
theorem isRep_yes (i : Nat) (hi : i < 4) : isRep i = true := by simp [isRep]; omega
/-- is an Id known? -/
def known (v : List Int) (r s : Int) : Bool := isRep r && decide (1 ≤ s) && decide (s ≤ v.getD r.toNat 0)
/-- the next Id. -/
def nextR (v : List Int) (r : Int) : Int := if isRep r = true ∧ v.getD r.toNat 0 < 65535 then r else 0
def nextS (v : List Int) (r : Int) : Int := if isRep r = true ∧ v.getD r.toNat 0 < 65535 then v.getD r.toNat 0 + 1 else 0
/-- the vector of the first k changes. -/
def ofTo (L : List Int) : Nat → List Int
  | 0 => [0, 0, 0, 0]
  | k + 1 => if isRep (L.getD (k * 9) 0) then (ofTo L k).set (L.getD (k * 9) 0).toNat (max ((ofTo L k).getD (L.getD (k * 9) 0).toNat 0) (L.getD (k * 9 + 1) 0)) else ofTo L k
theorem range_keep {w w' : World} {b o B : Nat} {cs : List Value} (h : w.rangeAt b o cs) (hb : Below B w w') (hlt : b < B) : w'.rangeAt b o cs := fun j v hv => (hb.cell (p := ⟨b, o + j, none⟩) hlt).trans (h j v hv)
theorem ofTo_len (L : List Int) : ∀ k, (ofTo L k).length = 4
  | 0 => rfl
  | k + 1 => by
    unfold ofTo
    split
    · rw [List.length_set, ofTo_len L k]
    · exact ofTo_len L k
theorem ofTo_no {L : List Int} {k : Nat} (h : isRep (L.getD (k * 9) 0) = false) : ofTo L (k + 1) = ofTo L k := by
  rw [ofTo, if_neg (by rw [h]; simp)]
theorem ofTo_yes {L : List Int} {k : Nat} (h : isRep (L.getD (k * 9) 0) = true) : ofTo L (k + 1) = (ofTo L k).set (L.getD (k * 9) 0).toNat (max ((ofTo L k).getD (L.getD (k * 9) 0).toNat 0) (L.getD (k * 9 + 1) 0)) := by
  rw [ofTo, if_pos h]
/-- the i-th change's cells. -/
def chAt (L : List Int) (i : Nat) : List Int := (L.drop (i * 9)).take 9
theorem chAt_len {L : List Int} {n i : Nat} (hl : L.length = n * 9) (hi : i < n) : (chAt L i).length = 9 := by
  unfold chAt
  rw [List.length_take, List.length_drop, hl]
  omega
theorem chAt_get {L : List Int} {i k : Nat} (hk : k < 9) : (chAt L i).getD k 0 = L.getD (i * 9 + k) 0 := by
  unfold chAt
  rw [List.getD_eq_getElem?_getD, List.getElem?_take_of_lt hk, List.getElem?_drop, List.getD_eq_getElem?_getD]
theorem chAt_at {w : World} {a : Option Addr} {n i : Nat} {L : List Int} (hs : Sl w a n 9 (ints L)) (hi : i < n) : ∃ b off, a = some ⟨b, off, none⟩ ∧ b < w.heap.size ∧ w.rangeAt b (off + i * 9) (ints (chAt L i)) := by
  rcases hs.2 with h | ⟨b, off, ha, hb, hc⟩
  · omega
  · refine ⟨b, off, ha, hb, fun j v hv => ?_⟩
    have hl : L.length = n * 9 := by have := hs.1; rwa [ints_len] at this
    have hj : j < 9 := by
      have := (List.getElem?_eq_some_iff.1 hv).1
      rwa [ints_len, chAt_len hl hi] at this
    rw [ints_get _ _ (by rw [chAt_len hl hi]; exact hj), chAt_get hj] at hv
    have hle : i * 9 + j < n * 9 := by omega
    rw [Nat.add_assoc, hc (i * 9 + j) hle, List.getD_eq_getElem?_getD, ints_get _ _ (by omega)]
    exact hv
end Go.Proofs.YteebmpbplenikaaDoor
