/- Changes: which may be. -/
import Derived.Test.YtcfipimhpeblbaaBlk
import Derived.Test.YtcfipimhpeblbaaRow
import Derived.Test.YtcfipimhpeblbaaOps
import Derived.RegionTactic
import Derived.BigRegion
import Derived.ChangeAlike
namespace Go.Proofs.Ytcfipimhpeblbaa
set_option linter.unusedVariables false
set_option linter.unusedSimpArgs false
open Go.ChangeShapes Go.WideShapes Go.ChangeAt Go.RowKit
def mayId (r s : Int) : Bool := decide (0 ≤ r ∧ r < 4 ∧ 1 ≤ s ∧ s ≤ 65535)
theorem mayId_iff (r s : Int) : mayId r s = true ↔ 0 ≤ r ∧ r < 4 ∧ 1 ≤ s ∧ s ≤ 65535 := decide_eq_true_iff
set_option maxHeartbeats 1000000 in
theorem may_any (r s : Int) (w : World) :
    Calls Try.prog 20 #[.agg #[.int .i64 r, .int .i64 s]] w fun e w' => e = .returned (.bool (mayId r s)) ∧ Below w.heap.size w w' := by
  have A := Blk.new w #[.int .i64 r, .int .i64 s] 34
  have HB := Lib.hid ((Below.refl w.heap.size w).alloc (Nat.le_refl _) (.cells #[.int .i64 r, .int .i64 s] 34))
  go_enter Try.func20, Try.ntmps20
  go_upto_region 1 with fail
  generalize w.alloc (.cells #[.int .i64 r, .int .i64 s] 34) = W at *
  have c0 : W.cell? ⟨w.heap.size, 0, none⟩ = some (.int .i64 r) := A.cell 0
  have c1 : W.cell? ⟨w.heap.size, 1, none⟩ = some (.int .i64 s) := A.cell 1
  clear A
  by_cases h0 : 0 ≤ r
  · by_cases h1 : r < 4
    · by_cases h2 : 1 ≤ s
      · by_cases h3 : s ≤ 65535
        · have E := Lib.hid ((mayId_iff r s).2 ⟨h0, h1, h2, h3⟩)
          go_wp2_with fail
          go_ret
          exact ⟨by rw [E.out]; rfl, HB.out⟩
        · have E := Lib.hid (show mayId r s = false by unfold mayId; rw [decide_eq_false]; omega)
          go_wp2_with fail
          go_ret
          exact ⟨by rw [E.out]; rfl, HB.out⟩
      · have E := Lib.hid (show mayId r s = false by unfold mayId; rw [decide_eq_false]; omega)
        go_wp2_with fail
        go_ret
        exact ⟨by rw [E.out]; rfl, HB.out⟩
    · have E := Lib.hid (show mayId r s = false by unfold mayId; rw [decide_eq_false]; omega)
      go_wp2_with fail
      go_ret
      exact ⟨by rw [E.out]; rfl, HB.out⟩
  · have E := Lib.hid (show mayId r s = false by unfold mayId; rw [decide_eq_false]; omega)
    go_wp2_with fail
    go_ret
    exact ⟨by rw [E.out]; rfl, HB.out⟩
set_option maxHeartbeats 1000000 in
theorem rmay_any (r s : Int) (w : World) :
    Calls Try.prog 9 #[.agg #[.int .i64 r, .int .i64 s]] w fun e w' => e = .returned (.bool (mayId r s)) ∧ Below w.heap.size w w' := by
  have A := Blk.new w #[.int .i64 r, .int .i64 s] 34
  have HB := Lib.hid ((Below.refl w.heap.size w).alloc (Nat.le_refl _) (.cells #[.int .i64 r, .int .i64 s] 34))
  go_enter Try.func9, Try.ntmps9
  go_upto_region 1 with fail
  generalize w.alloc (.cells #[.int .i64 r, .int .i64 s] 34) = W at *
  have c0 : W.cell? ⟨w.heap.size, 0, none⟩ = some (.int .i64 r) := A.cell 0
  have c1 : W.cell? ⟨w.heap.size, 1, none⟩ = some (.int .i64 s) := A.cell 1
  clear A
  by_cases h0 : 0 ≤ r
  · by_cases h1 : r < 4
    · by_cases h2 : 1 ≤ s
      · by_cases h3 : s ≤ 65535
        · have E := Lib.hid ((mayId_iff r s).2 ⟨h0, h1, h2, h3⟩)
          go_wp2_with fail
          go_ret
          exact ⟨by rw [E.out]; rfl, HB.out⟩
        · have E := Lib.hid (show mayId r s = false by unfold mayId; rw [decide_eq_false]; omega)
          go_wp2_with fail
          go_ret
          exact ⟨by rw [E.out]; rfl, HB.out⟩
      · have E := Lib.hid (show mayId r s = false by unfold mayId; rw [decide_eq_false]; omega)
        go_wp2_with fail
        go_ret
        exact ⟨by rw [E.out]; rfl, HB.out⟩
    · have E := Lib.hid (show mayId r s = false by unfold mayId; rw [decide_eq_false]; omega)
      go_wp2_with fail
      go_ret
      exact ⟨by rw [E.out]; rfl, HB.out⟩
  · have E := Lib.hid (show mayId r s = false by unfold mayId; rw [decide_eq_false]; omega)
    go_wp2_with fail
    go_ret
    exact ⟨by rw [E.out]; rfl, HB.out⟩
theorem may_is {r s : Int} {v : Bool} (h : mayId r s = v) (w : World) : Calls Try.prog 20 #[.agg #[.int .i64 r, .int .i64 s]] w fun e w' => e = .returned (.bool v) ∧ Below w.heap.size w w' := by
  have := may_any r s w
  rwa [h] at this
theorem rmay_is {r s : Int} {v : Bool} (h : mayId r s = v) (w : World) : Calls Try.prog 9 #[.agg #[.int .i64 r, .int .i64 s]] w fun e w' => e = .returned (.bool v) ∧ Below w.heap.size w w' := by
  have := rmay_any r s w
  rwa [h] at this
def isOct (n : Int) : Bool := decide (0 ≤ n ∧ n ≤ 255)
theorem isOct_iff (n : Int) : isOct n = true ↔ 0 ≤ n ∧ n ≤ 255 := decide_eq_true_iff
/-- the cells of a change. -/
def chg9 (r s t k a b n p q : Int) : List Value := ints [r, s, t, k, a, b, n, p, q]
def mayChg (r s t k a b p q : Int) : Bool := decide (mayId r s = true ∧ 1 ≤ t ∧ t ≤ 1073741824 ∧ 0 ≤ q ∧ q ≤ 65535 ∧ isOct k = true ∧ isOct a = true ∧ isOct b = true ∧ isOct p = true)
def chkChg (r s t k a b p q : Int) : Int := if mayChg r s t k a b p q = true then 0 else 4
theorem chk_no {r s t k a b p q : Int} (h : ¬ (mayId r s = true ∧ 1 ≤ t ∧ t ≤ 1073741824 ∧ 0 ≤ q ∧ q ≤ 65535 ∧ isOct k = true ∧ isOct a = true ∧ isOct b = true ∧ isOct p = true)) : chkChg r s t k a b p q = 4 := by
  unfold chkChg mayChg
  rw [decide_eq_false h]; rfl
theorem chk_yes {r s t k a b p q : Int} (h : mayId r s = true ∧ 1 ≤ t ∧ t ≤ 1073741824 ∧ 0 ≤ q ∧ q ≤ 65535 ∧ isOct k = true ∧ isOct a = true ∧ isOct b = true ∧ isOct p = true) : chkChg r s t k a b p q = 0 := by
  unfold chkChg mayChg
  rw [decide_eq_true h]; rfl
theorem mayChg_no {r s t k a b p q : Int} (h : ¬ (mayId r s = true ∧ 1 ≤ t ∧ t ≤ 1073741824 ∧ 0 ≤ q ∧ q ≤ 65535 ∧ isOct k = true ∧ isOct a = true ∧ isOct b = true ∧ isOct p = true)) : mayChg r s t k a b p q = false := decide_eq_false h
end Go.Proofs.Ytcfipimhpeblbaa
