/- Answers: what Told and Tell answer, case by case. -/
import Derived.Test.YteijahcbfncebaaDoorCode10
import Derived.RegionTactic
import Derived.BigRegion
import Derived.ChangeAlike
namespace Go.Proofs.YteijahcbfncebaaDoor
set_option linter.unusedVariables false
set_option linter.unusedSimpArgs false
open Go.ChangeShapes Go.WideShapes Go.ChangeAt Go.RowKit
theorem six {bs : List UInt8} (h : bs.length = 6) : ∃ a b c d e f, bs = [a, b, c, d, e, f] := by
  match bs, h with
  | [a, b, c, d, e, f], _ => exact ⟨a, b, c, d, e, f, rfl⟩
theorem ans_num (a b c d e f : UInt8) : wrap64 (tkN (tkS ([a, b, c, d, e, f], true) 1) 4 : Int) = ((((b.toNat * 256 + c.toNat) * 256 + d.toNat) * 256 + e.toNat : Nat) : Int) := by
  have hb := b.toNat_lt
  have hc := c.toNat_lt
  have hd := d.toNat_lt
  have he := e.toNat_lt
  have h : tkN (tkS ([a, b, c, d, e, f], true) 1) 4 = (((b.toNat * 256 + c.toNat) * 256 + d.toNat) * 256 + e.toNat) := by
    simp [tkN, tkS, tkB, numOf]
  rw [h]
  unfold wrap64; omega
theorem ans_one (a b c d e f : UInt8) : wrap64 (tkN ([a, b, c, d, e, f], true) 1 : Int) = (a.toNat : Int) := by
  have ha := a.toNat_lt
  have h : tkN ([a, b, c, d, e, f], true) 1 = a.toNat := by simp [tkN, tkB, numOf]
  rw [h]
  unfold wrap64; omega
theorem ans_last (a b c d e f : UInt8) : wrap64 (tkN (tkS (tkS ([a, b, c, d, e, f], true) 1) 4) 1 : Int) = (f.toNat : Int) := by
  have hf := f.toNat_lt
  have h : tkN (tkS (tkS ([a, b, c, d, e, f], true) 1) 4) 1 = f.toNat := by simp [tkN, tkS, tkB, numOf]
  rw [h]
  unfold wrap64; omega
/-- a number that may not be begins with an octet of 128 or more. -/
theorem ans_high {bs : List UInt8} (h : bs.length = 6) (hv : inB (wrap64 (tkN (tkS (bs, true) 1) 4 : Int)) 0 2147483647 = false) : ∃ z : Int, 128 ≤ z ∧ z < 256 ∧ (bcells bs)[1]? = some (.int .u8 z) := by
  obtain ⟨a, b, c, d, e, f, rfl⟩ := six h
  rw [ans_num] at hv
  have hb := b.toNat_lt
  have hc := c.toNat_lt
  have hd := d.toNat_lt
  have he := e.toNat_lt
  refine ⟨b.toNat, ?_, by omega, rfl⟩
  have : ¬ (inB ((((b.toNat * 256 + c.toNat) * 256 + d.toNat) * 256 + e.toNat : Nat) : Int) 0 2147483647 = true) := by rw [hv]; decide
  rw [inB_iff] at this
  omega
theorem beOf_one (a : UInt8) : beOf (u64 (a.toNat : Int)) 1 = [a] := by
  have ha := a.toNat_lt
  have hu : u64 (a.toNat : Int) = numOf [a] := by simp only [numOf, List.foldl]; unfold u64; omega
  rw [hu]
  exact nb_back [a]
/-- octets that are an answer's are those of the answer that they are. -/
theorem ans_dec {bs : List UInt8} (h : bs.length = 6) (hv : inB (wrap64 (tkN (tkS (bs, true) 1) 4 : Int)) 0 2147483647 = true) : ∃ x n m : Int, bs = encA x n m ∧ inB x 0 255 = true ∧ inB m 0 255 = true ∧ inB n 0 2147483647 = true := by
  obtain ⟨a, b, c, d, e, f, rfl⟩ := six h
  rw [ans_num] at hv
  have ha := a.toNat_lt
  have hf := f.toNat_lt
  refine ⟨a.toNat, ((((b.toNat * 256 + c.toNat) * 256 + d.toNat) * 256 + e.toNat : Nat) : Int), f.toNat, ?_, inB_iff.2 (by omega), inB_iff.2 (by omega), hv⟩
  obtain ⟨h0, h1⟩ := inB_iff.1 hv
  unfold encA
  rw [beOf_one, beOf_one]
  have hu : u64 ((((b.toNat * 256 + c.toNat) * 256 + d.toNat) * 256 + e.toNat : Nat) : Int) = numOf [b, c, d, e] := by
    simp only [numOf, List.foldl]; unfold u64; omega
  rw [hu, show beOf (numOf [b, c, d, e]) 4 = [b, c, d, e] from nb_back [b, c, d, e]]
  rfl
theorem tell_bad (x n m : Int) (w : World) (h : (inB x 0 255 && inB m 0 255 && inB n 0 2147483647) = false) :
    Calls Tryd.prog 18 #[.agg #[.int .i64 x, .int .i64 n, .int .i64 m]] w fun e w' => e = .returned (.tuple #[.slice none 0 0, .int .i64 4]) ∧ Below w.heap.size w w' := by
  rcases hx : inB x 0 255 with _ | _
  · exact tell_no1 x n m w hx
  · rcases hm : inB m 0 255 with _ | _
    · exact tell_no2 x n m w hx hm
    · rcases hn : inB n 0 2147483647 with _ | _
      · exact tell_no3 x n m w hx hm hn
      · rw [hx, hm, hn] at h; cases h
end Go.Proofs.YteijahcbfncebaaDoor
