/- Plain lemmas on 64-bit arithmetic. -/
import Derived.WalkKit
import Derived.IntWalk
namespace Go.Proofs.Ytcfipimhpeblbaa
set_option linter.unusedVariables false
set_option linter.unusedSimpArgs false
open Go.RowKit
theorem wrap_i64_toInt (v : BitVec 64) : IntKind.i64.wrap (v.toNat : Int) = v.toInt := by
  have h := v.isLt
  rw [IntKind.wrap_i64, BitVec.toInt_eq_toNat_cond]
  split <;> omega
theorem bits_toInt_and (x y : Int) : bits .and .i64 x y = (BitVec.ofInt 64 x &&& BitVec.ofInt 64 y).toInt := wrap_i64_toInt _
theorem bits_toInt_xor (x y : Int) : bits .xor .i64 x y = (BitVec.ofInt 64 x ^^^ BitVec.ofInt 64 y).toInt := wrap_i64_toInt _
theorem toInt_neg (v : BitVec 64) : (v.toInt < 0) ↔ v.msb = true := by
  rw [BitVec.msb_eq_toInt]; simp
theorem msb_ofInt (a : Int) (h1 : -9223372036854775808 ≤ a) (h2 : a ≤ 9223372036854775807) : (BitVec.ofInt 64 a).msb = decide (a < 0) := by
  rw [BitVec.msb_eq_toInt, BitVec.toInt_ofInt]
  congr 1
  rw [Int.bmod_def]
  simp
  split <;> omega
theorem xor_neg (x y : Int) (h1 : -9223372036854775808 ≤ x) (h2 : x ≤ 9223372036854775807) (h3 : -9223372036854775808 ≤ y) (h4 : y ≤ 9223372036854775807) :
    (bits .xor .i64 x y < 0) ↔ ((decide (x < 0) ^^ decide (y < 0)) = true) := by
  rw [bits_toInt_xor, toInt_neg, BitVec.msb_xor, msb_ofInt x h1 h2, msb_ofInt y h3 h4]
theorem bits_range (op : BinOp) (x y : Int) : -9223372036854775808 ≤ bits op .i64 x y ∧ bits op .i64 x y ≤ 9223372036854775807 := by
  unfold bits
  simp only [IntKind.wrap_i64]
  omega
theorem and_neg (x y : Int) (h1 : -9223372036854775808 ≤ x) (h2 : x ≤ 9223372036854775807) (h3 : -9223372036854775808 ≤ y) (h4 : y ≤ 9223372036854775807) :
    (bits .and .i64 x y < 0) ↔ ((decide (x < 0) && decide (y < 0)) = true) := by
  rw [bits_toInt_and, toInt_neg, BitVec.msb_and, msb_ofInt x h1 h2, msb_ofInt y h3 h4]
def fits (n : Int) : Bool := decide (-9223372036854775808 ≤ n) && decide (n ≤ 9223372036854775807)
theorem fits_iff (n : Int) : fits n = true ↔ -9223372036854775808 ≤ n ∧ n ≤ 9223372036854775807 := by unfold fits; simp
theorem fits_not (n : Int) : fits n = false ↔ ¬ (-9223372036854775808 ≤ n ∧ n ≤ 9223372036854775807) := by
  rw [← fits_iff]; simp
/-- the test of Add. -/
theorem over_add (a b : Int) (ha : fits a = true) (hb : fits b = true) :
    (bits .and .i64 (bits .xor .i64 a (wrap64 (a + b))) (bits .xor .i64 b (wrap64 (a + b))) < 0) ↔ fits (a + b) = false := by
  rw [fits_iff] at ha hb
  have hw : -9223372036854775808 ≤ wrap64 (a + b) ∧ wrap64 (a + b) ≤ 9223372036854775807 := by unfold wrap64; omega
  have r1 := bits_range .xor a (wrap64 (a + b))
  have r2 := bits_range .xor b (wrap64 (a + b))
  rw [and_neg _ _ r1.1 r1.2 r2.1 r2.2]
  have e1 := xor_neg a (wrap64 (a + b)) ha.1 ha.2 hw.1 hw.2
  have e2 := xor_neg b (wrap64 (a + b)) hb.1 hb.2 hw.1 hw.2
  rw [Bool.and_eq_true, decide_eq_true_eq, decide_eq_true_eq, e1, e2, fits_not]
  unfold wrap64
  simp only [bne_iff_ne, ne_eq, decide_eq_decide]
  omega
theorem over_sub (a b : Int) (ha : fits a = true) (hb : fits b = true) :
    (bits .and .i64 (bits .xor .i64 a b) (bits .xor .i64 a (wrap64 (a - b))) < 0) ↔ fits (a - b) = false := by
  rw [fits_iff] at ha hb
  have hw : -9223372036854775808 ≤ wrap64 (a - b) ∧ wrap64 (a - b) ≤ 9223372036854775807 := by unfold wrap64; omega
  have r1 := bits_range .xor a b
  have r2 := bits_range .xor a (wrap64 (a - b))
  rw [and_neg _ _ r1.1 r1.2 r2.1 r2.2]
  have e1 := xor_neg a b ha.1 ha.2 hb.1 hb.2
  have e2 := xor_neg a (wrap64 (a - b)) ha.1 ha.2 hw.1 hw.2
  rw [Bool.and_eq_true, decide_eq_true_eq, decide_eq_true_eq, e1, e2, fits_not]
  unfold wrap64
  simp only [bne_iff_ne, ne_eq, decide_eq_decide]
  omega
theorem tdiv_near (c b : Int) : ∃ r : Int, c = b * c.tdiv b + r ∧ (0 < b → -b < r ∧ r < b) ∧ (b < 0 → b < r ∧ r < -b) := by
  refine ⟨c.tmod b, (Int.mul_tdiv_add_tmod c b).symm, ?_, ?_⟩
  · intro h
    have h1 := Int.tmod_lt_of_pos c h
    have h2 := Int.tmod_lt_of_pos (-c) h
    rw [Int.neg_tmod] at h2
    omega
  · intro h
    have hb' : 0 < -b := by omega
    have h1 := Int.tmod_lt_of_pos c hb'
    have h2 := Int.tmod_lt_of_pos (-c) hb'
    rw [Int.neg_tmod] at h2
    rw [Int.tmod_neg] at h1 h2
    omega
theorem sign_mul (a b : Int) (ha : a ≠ 0) (hb : b ≠ 0) : (a * b < 0 ↔ ((a < 0 ∧ 0 < b) ∨ (0 < a ∧ b < 0))) ∧ a * b ≠ 0 := by
  refine ⟨?_, Int.mul_ne_zero ha hb⟩
  rcases Int.lt_or_gt_of_ne ha with h1 | h1 <;> rcases Int.lt_or_gt_of_ne hb with h2 | h2
  · have := Int.mul_pos_of_neg_of_neg h1 h2; omega
  · have := Int.mul_neg_of_neg_of_pos h1 h2; omega
  · have := Int.mul_neg_of_pos_of_neg h1 h2; omega
  · have := Int.mul_pos h1 h2; omega
/-- a product that fits is found by its quotient. -/
theorem mul_quo (a b : Int) (ha : fits a = true) (hb0 : b ≠ 0) (h : fits (a * b) = true) : wrap64 (a * b) = a * b ∧ wrap64 ((wrap64 (a * b)).tdiv b) = a := by
  rw [fits_iff] at ha h
  have h1 : wrap64 (a * b) = a * b := by unfold wrap64; omega
  refine ⟨h1, ?_⟩
  rw [h1, Int.mul_tdiv_cancel _ hb0]
  unfold wrap64; omega
/-- and one that does not fit has another quotient, or another sign. -/
theorem mul_over (a b : Int) (ha : fits a = true) (hb : fits b = true) (ha0 : a ≠ 0) (hb0 : b ≠ 0) (hq : wrap64 ((wrap64 (a * b)).tdiv b) = a)
    (hs : (!decide (wrap64 (a * b) < 0) == !decide (a < 0) == decide (b < 0)) = false) : fits (a * b) = true := by
  rw [fits_iff] at ha hb
  have hsg := sign_mul a b ha0 hb0
  obtain ⟨r, hr, hr1, hr2⟩ := tdiv_near (wrap64 (a * b)) b
  have hw : -9223372036854775808 ≤ wrap64 (a * b) ∧ wrap64 (a * b) ≤ 9223372036854775807 := by unfold wrap64; omega
  have hk : ∃ k : Int, a * b = wrap64 (a * b) + k * 18446744073709551616 := ⟨(a * b + 9223372036854775808) / 18446744073709551616, by unfold wrap64; omega⟩
  obtain ⟨k, hk⟩ := hk
  have hq1 : -9223372036854775808 ≤ (wrap64 (a * b)).tdiv b ∧ (wrap64 (a * b)).tdiv b ≤ 9223372036854775808 := by
    have := Int.natAbs_tdiv_le_natAbs (wrap64 (a * b)) b
    omega
  generalize wrap64 (a * b) = c at *
  by_cases hm : c.tdiv b = 9223372036854775808
  · -- the least number by -1
    have hwm : wrap64 (9223372036854775808 : Int) = -9223372036854775808 := by unfold wrap64; omega
    rw [hm, hwm] at hq
    subst hq
    rw [fits_iff]
    have hc : c < 0 ∨ 0 ≤ c := by omega
    rcases hc with hc | hc
    · by_cases hbn : b < 0
      · simp [hc, hbn] at hs
      · rw [hm] at hr
        omega
    · rw [hm] at hr
      omega
  · have : wrap64 (c.tdiv b) = c.tdiv b := by unfold wrap64; omega
    rw [this] at hq
    rw [hq] at hr
    have hab : a * b = b * a := Int.mul_comm a b
    rw [fits_iff]
    rcases Int.lt_or_gt_of_ne hb0 with h | h
    · have := hr2 h; omega
    · have := hr1 h; omega
theorem mul_over1 (a b : Int) (ha : fits a = true) (hb : fits b = true) (ha0 : a ≠ 0) (hb0 : b ≠ 0) (hn : b ≠ -1) (hq : wrap64 ((wrap64 (a * b)).tdiv b) = a) : fits (a * b) = true := by
  rw [fits_iff] at ha hb
  obtain ⟨r, hr, hr1, hr2⟩ := tdiv_near (wrap64 (a * b)) b
  have hw : -9223372036854775808 ≤ wrap64 (a * b) ∧ wrap64 (a * b) ≤ 9223372036854775807 := by unfold wrap64; omega
  have hk : ∃ k : Int, a * b = wrap64 (a * b) + k * 18446744073709551616 := ⟨(a * b + 9223372036854775808) / 18446744073709551616, by unfold wrap64; omega⟩
  obtain ⟨k, hk⟩ := hk
  have hq1 : -9223372036854775808 ≤ (wrap64 (a * b)).tdiv b ∧ (wrap64 (a * b)).tdiv b ≤ 9223372036854775808 := by
    have := Int.natAbs_tdiv_le_natAbs (wrap64 (a * b)) b
    omega
  generalize wrap64 (a * b) = c at *
  by_cases hm : c.tdiv b = 9223372036854775808
  · rw [hm] at hr
    omega
  · have : wrap64 (c.tdiv b) = c.tdiv b := by unfold wrap64; omega
    rw [this] at hq
    rw [hq] at hr
    have hab : a * b = b * a := Int.mul_comm a b
    rw [fits_iff]
    rcases Int.lt_or_gt_of_ne hb0 with h | h
    · have := hr2 h; omega
    · have := hr1 h; omega
theorem sign_fits (a b : Int) (ha0 : a ≠ 0) (hb0 : b ≠ 0) : (!decide (a * b < 0) == !decide (a < 0) == decide (b < 0)) = false := by
  have h := (sign_mul a b ha0 hb0).1
  by_cases h1 : a < 0 <;> by_cases h2 : b < 0 <;> by_cases h3 : a * b < 0 <;> simp [h1, h2, h3] <;> omega
end Go.Proofs.Ytcfipimhpeblbaa
