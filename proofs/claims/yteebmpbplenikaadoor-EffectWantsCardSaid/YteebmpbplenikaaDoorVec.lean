/- The contracts of vector. -/
import Derived.Test.YteebmpbplenikaaDoorBlk
import Derived.Test.YteebmpbplenikaaDoorOps
import Derived.Deep.LoopGhost
import Derived.Deep.QuietTactic
import Derived.BigQuiet
import Derived.Lib.SmallJoins
import Derived.StillTailTactics
namespace Go.Proofs.YteebmpbplenikaaDoor
set_option linter.unusedVariables false
set_option linter.unusedSimpArgs false
open Go.ChangeShapes Go.WideShapes Go.ChangeAt Go.RowKit
theorem Blk.vec {w : World} {g t : Nat} {v : List Int} (h : Blk w g (ints v) t) (hv : Hid (v.length = 4)) : w.rangeAt g 0 (ints v) := h.range 0 _ (by simp)
theorem Blk.vcell {w : World} {g t : Nat} {v : List Int} (h : Blk w g (ints v) t) (hv : Hid (v.length = 4)) {k : Nat} (hk : k < 4) : w.cell? ⟨g, k, none⟩ = some (.int .i64 (v.getD k 0)) := (h.cell k).trans (ints_get v k (by rw [hv.out]; exact hk))
/-- none of the first k is less. -/
def covTo (v u : List Int) : Nat → Bool
  | 0 => true
  | k + 1 => covTo v u k && decide (u.getD k 0 ≤ v.getD k 0)
theorem covTo_mono {v u : List Int} {k : Nat} : ∀ {n}, k < n → v.getD k 0 < u.getD k 0 → covTo v u n = false
  | 0, h, _ => absurd h (Nat.not_lt_zero _)
  | n + 1, h, hl => by
    unfold covTo
    by_cases hk : k = n
    · subst hk
      rw [decide_eq_false (by omega), Bool.and_false]
    · rw [covTo_mono (by omega) hl, Bool.false_and]
def cov (v u : List Int) : Bool := covTo v u 4
/-- the first k are joined. -/
def joinTo (v u : List Int) : Nat → List Int
  | 0 => v
  | k + 1 => (joinTo v u k).set k (max (v.getD k 0) (u.getD k 0))
theorem joinTo_len (v u : List Int) : ∀ k, (joinTo v u k).length = v.length
  | 0 => rfl
  | k + 1 => by simp [joinTo, joinTo_len v u k]
theorem joinTo_hi (v u : List Int) : ∀ k j, k ≤ j → (joinTo v u k).getD j 0 = v.getD j 0
  | 0, _, _ => rfl
  | k + 1, j, h => by
    have := joinTo_hi v u k j (by omega)
    rw [← this, List.getD_eq_getElem?_getD, List.getD_eq_getElem?_getD]
    show ((joinTo v u k).set k _)[j]?.getD 0 = _
    rw [List.getElem?_set_ne (by omega)]
theorem joinTo_lo (v u : List Int) : ∀ k j, j < k → j < v.length → (joinTo v u k).getD j 0 = max (v.getD j 0) (u.getD j 0)
  | 0, _, h, _ => absurd h (Nat.not_lt_zero _)
  | k + 1, j, h, hl => by
    show ((joinTo v u k).set k _).getD j 0 = _
    by_cases e : j = k
    · subst e
      rw [List.getD_eq_getElem?_getD, List.getElem?_set_self (by rw [joinTo_len]; exact hl)]; rfl
    · rw [List.getD_eq_getElem?_getD, List.getElem?_set_ne (fun q => e q.symm), ← List.getD_eq_getElem?_getD, joinTo_lo v u k j (by omega) hl]
def join4 (v u : List Int) : List Int := joinTo v u 4
end Go.Proofs.YteebmpbplenikaaDoor
