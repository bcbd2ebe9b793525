/- Whether two bookings are alike: the same ones are. -/
import Derived.Test.YtlhebimfkdcidaaBookRd
import Derived.Test.YtlhebimfkdcidaaOps
import Derived.Deep.LoopGhost
namespace Go.Proofs.Ytlhebimfkdcidaa
set_option linter.unusedVariables false
set_option linter.unusedSimpArgs false
open Go.ChangeShapes Go.WideShapes Go.ChangeAt Go.RowKit
def Ok8 (l : List Int) : Prop := OkAll (List.replicate 8 (some .i64)) (ints l)
theorem same_no (xs : List Value) : (!sameB xs xs) = false := by rw [sameB_refl]; rfl
theorem arr_eq_run (l l' : List Int) (h : Ok8 l) (h' : Ok8 l') (w : World) : (binOp .neq 22 (.agg (ints l).toArray) (.agg (ints l').toArray)).run Try.prog w = .ok (.bool (!sameB (ints l) (ints l'))) w :=
  neq_flat 2 2 22 _ _ _ w flat_arr8 (by kernel_rfl) (by kernel_rfl) (by kernel_rfl) (by decide) h h'
theorem order_eq_run (xs ys : List Value) (h : OkAll orderKinds xs) (h' : OkAll orderKinds ys) (w : World) : (binOp .neq 29 (.agg xs.toArray) (.agg ys.toArray)).run Try.prog w = .ok (.bool (!sameB xs ys)) w :=
  neq_flat 3 3 29 _ _ _ w flat_order (by kernel_rfl) (by kernel_rfl) (by kernel_rfl) (by decide) h h'
section
variable {ops : Array Oper} {rest : List Oper} {a : Act} {w : World} {Q : Exit → Act → World → Prop} {R : Act → Prop} {d t t' : Nat} {ty : TypeId} {ps : String} {af : Array Edge}
theorem bk_range {g T : Nat} {s p u : List Int} {o : Value} (hb : Blk w g (bkc s p u o) T) (h8 : Hid (L8 s p u)) {f : Nat} {l : List Int} (hsel : (f = 0 ∧ l = s) ∨ (f = 8 ∧ l = p) ∨ (f = 16 ∧ l = u)) : w.rangeAt g f (ints l) ∧ l.length = 8 := by
  rcases hsel with ⟨rfl, rfl⟩ | ⟨rfl, rfl⟩ | ⟨rfl, rfl⟩
  · exact ⟨hb.range 0 _ (bkc_take_s o), h8.out.s8⟩
  · exact ⟨hb.range 8 _ (bkc_take_p h8.out o), h8.out.p8⟩
  · exact ⟨hb.range 16 _ (bkc_take_u h8.out o), h8.out.u8⟩
theorem bk_arr {g T f : Nat} {s p u l : List Int} {o : Value} (hx : a.eval (.tmp t) = .pointer (some ⟨g, f, none⟩)) (hb : Blk w g (bkc s p u o) T) (h8 : Hid (L8 s p u)) (hsel : (f = 0 ∧ l = s) ∨ (f = 8 ∧ l = p) ∨ (f = 16 ∧ l = u))
    (h : wpList Try.prog ops Q rest (a.put (some d) (.agg (ints l).toArray)) w) : wpList Try.prog ops Q (⟨some d, .load 22 (.tmp t), ty, ps, af, none⟩ :: rest) a w := by
  obtain ⟨hr, hl⟩ := bk_range hb h8 hsel
  exact ls_run rfl (run_op_load rfl hx hr Try.underlying22 rfl (by rw [size_arr8, ints_len, hl])) h
theorem bk_arr_g {i : Nat} {b : Bool} {g T f : Nat} {s p u l : List Int} {o : Value} (hx : a.eval (.tmp t) = .pointer (some ⟨g, f, none⟩)) (hw : Region.wanted ⟨some d, .load 22 (.tmp t), ty, ps, af, some (i, b)⟩ (yielded ops a.tmps) = true) (hb : Blk w g (bkc s p u o) T) (h8 : Hid (L8 s p u)) (hsel : (f = 0 ∧ l = s) ∨ (f = 8 ∧ l = p) ∨ (f = 16 ∧ l = u))
    (h : wpList Try.prog ops Q rest (a.put (some d) (.agg (ints l).toArray)) w) : wpList Try.prog ops Q (⟨some d, .load 22 (.tmp t), ty, ps, af, some (i, b)⟩ :: rest) a w := by
  obtain ⟨hr, hl⟩ := bk_range hb h8 hsel
  exact ls_run_g hw (run_op_load rfl hx hr Try.underlying22 rfl (by rw [size_arr8, ints_len, hl])) h
theorem arr_neq {l l' : List Int} {b : Bool} (hx : a.eval (.tmp t) = .agg (ints l).toArray) (hy : a.eval (.tmp t') = .agg (ints l').toArray) (h1 : Ok8 l) (h2 : Ok8 l') (hb : (!sameB (ints l) (ints l')) = b)
    (h : wpList Try.prog ops Q rest (a.put (some d) (.bool b)) w) : wpList Try.prog ops Q (⟨some d, .binOp .neq 22 (.tmp t) (.tmp t') 22, ty, ps, af, none⟩ :: rest) a w :=
  ls_run rfl (run_op_cmp rfl hx hy (by kernel_rfl) (by rw [arr_eq_run l l' h1 h2 w, hb])) h
theorem arr_neq_g {i : Nat} {bb : Bool} {l l' : List Int} {b : Bool} (hx : a.eval (.tmp t) = .agg (ints l).toArray) (hy : a.eval (.tmp t') = .agg (ints l').toArray) (hw : Region.wanted ⟨some d, .binOp .neq 22 (.tmp t) (.tmp t') 22, ty, ps, af, some (i, bb)⟩ (yielded ops a.tmps) = true) (h1 : Ok8 l) (h2 : Ok8 l') (hb : (!sameB (ints l) (ints l')) = b)
    (h : wpList Try.prog ops Q rest (a.put (some d) (.bool b)) w) : wpList Try.prog ops Q (⟨some d, .binOp .neq 22 (.tmp t) (.tmp t') 22, ty, ps, af, some (i, bb)⟩ :: rest) a w :=
  ls_run_g hw (run_op_cmp rfl hx hy (by kernel_rfl) (by rw [arr_eq_run l l' h1 h2 w, hb])) h
theorem order_load {g f : Nat} {xs : List Value} (hx : a.eval (.tmp t) = .pointer (some ⟨g, f, none⟩)) (hr : w.rangeAt g f xs) (hl : xs.length = 7)
    (h : wpStill Try.prog ops w R rest (a.put (some d) (.agg xs.toArray))) : wpStill Try.prog ops w R (⟨some d, .load 29 (.tmp t), ty, ps, af, none⟩ :: rest) a :=
  st_run rfl (run_op_load rfl hx hr Try.underlying29 rfl (by rw [hl]; kernel_rfl)) h
theorem order_neq {xs ys : List Value} {b : Bool} (hx : a.eval (.tmp t) = .agg xs.toArray) (hy : a.eval (.tmp t') = .agg ys.toArray) (h1 : OkAll orderKinds xs) (h2 : OkAll orderKinds ys) (hb : (!sameB xs ys) = b)
    (h : wpStill Try.prog ops w R rest (a.put (some d) (.bool b))) : wpStill Try.prog ops w R (⟨some d, .binOp .neq 29 (.tmp t) (.tmp t') 29, ty, ps, af, none⟩ :: rest) a :=
  st_run rfl (run_op_cmp rfl hx hy (by kernel_rfl) (by rw [order_eq_run xs ys h1 h2 w, hb])) h
end
/-- element i of a slice of orders. -/
theorem Sl.chunk {w : World} {a : Option Addr} {n sz : Nat} {xs : List Value} (h : Sl w a n sz xs) {i : Nat} (hi : i < n) (hs : 0 < sz) : ∃ b off, a = some ⟨b, off, none⟩ ∧ w.rangeAt b (off + i * sz) ((xs.drop (i * sz)).take sz) ∧ ((xs.drop (i * sz)).take sz).length = sz := by
  have hle : i * sz + sz ≤ n * sz := by
    have : (i + 1) * sz ≤ n * sz := Nat.mul_le_mul_right _ hi
    rwa [Nat.succ_mul] at this
  rcases h.2 with h0 | ⟨b, off, ha, hb, hc⟩
  · omega
  · have hl : ((xs.drop (i * sz)).take sz).length = sz := by rw [List.length_take, List.length_drop, h.1]; omega
    refine ⟨b, off, ha, fun j v hv => ?_, hl⟩
    have hj : j < sz := by rw [← hl]; exact (List.getElem?_eq_some_iff.1 hv).1
    rw [List.getElem?_take_of_lt hj, List.getElem?_drop] at hv
    rw [Nat.add_assoc, hc (i * sz + j) (by omega), List.getD_eq_getElem?_getD, hv]
    rfl
end Go.Proofs.Ytlhebimfkdcidaa
