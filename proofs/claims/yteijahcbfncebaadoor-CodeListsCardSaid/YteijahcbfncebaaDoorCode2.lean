/- Which steps may be. -/
import Derived.Test.YteijahcbfncebaaDoorCode
import Derived.Test.YteijahcbfncebaaDoorEq
import Derived.Test.YteijahcbfncebaaDoorQt
import Derived.Test.YteijahcbfncebaaDoorRow
import Derived.Deep.LoopGhost
import Derived.Deep.DeepCutAuto
import Derived.RegionTactic
import Derived.BigRegion
import Derived.ChangeAlike
namespace Go.Proofs.YteijahcbfncebaaDoor
set_option linter.unusedVariables false
set_option linter.unusedSimpArgs false
open Go.ChangeShapes Go.WideShapes Go.ChangeAt Go.RowKit
theorem maybyte_any (z : Int) (w : World) : Calls Tryd.prog 24 #[.int .i64 z] w fun e w' => e = .returned (.bool (inB z 0 255)) ∧ w = w' := by
  have C := Lib.hid (fun w => in_any z 0 255 w)
  generalize inB z 0 255 = v at *
  go_enter Tryd.func24, Tryd.ntmps24
  go_wp2_with fail
  refine (C.out _).mono ?_
  rintro e w2 ⟨rfl, rfl⟩
  go_wp2_with fail
  go_ret
  exact ⟨rfl, rfl⟩
theorem maynum_any (z : Int) (w : World) : Calls Tryd.prog 23 #[.int .i64 z] w fun e w' => e = .returned (.bool (inB z 0 2147483647)) ∧ w = w' := by
  have C := Lib.hid (fun w => in_any z 0 2147483647 w)
  generalize inB z 0 2147483647 = v at *
  go_enter Tryd.func23, Tryd.ntmps23
  go_wp2_with fail
  refine (C.out _).mono ?_
  rintro e w2 ⟨rfl, rfl⟩
  go_wp2_with fail
  go_ret
  exact ⟨rfl, rfl⟩
theorem idx6_0 (r i ck a b p : Int) (w : World) : (Instr.index 55 (.agg #[.int .i64 r, .int .i64 i, .int .i64 ck, .int .i64 a, .int .i64 b, .int .i64 p]) (.int .i64 0)).run Tryd.prog w = .ok (.int .i64 r) w := by
  simp [Instr.index, run_underlying Tryd.underlying55, asIntOf, go_sem]
theorem idx6_1 (r i ck a b p : Int) (w : World) : (Instr.index 55 (.agg #[.int .i64 r, .int .i64 i, .int .i64 ck, .int .i64 a, .int .i64 b, .int .i64 p]) (.int .i64 1)).run Tryd.prog w = .ok (.int .i64 i) w := by
  simp [Instr.index, run_underlying Tryd.underlying55, asIntOf, go_sem]
theorem idx6_2 (r i ck a b p : Int) (w : World) : (Instr.index 55 (.agg #[.int .i64 r, .int .i64 i, .int .i64 ck, .int .i64 a, .int .i64 b, .int .i64 p]) (.int .i64 2)).run Tryd.prog w = .ok (.int .i64 ck) w := by
  simp [Instr.index, run_underlying Tryd.underlying55, asIntOf, go_sem]
theorem idx6_3 (r i ck a b p : Int) (w : World) : (Instr.index 55 (.agg #[.int .i64 r, .int .i64 i, .int .i64 ck, .int .i64 a, .int .i64 b, .int .i64 p]) (.int .i64 3)).run Tryd.prog w = .ok (.int .i64 a) w := by
  simp [Instr.index, run_underlying Tryd.underlying55, asIntOf, go_sem]
theorem idx6_4 (r i ck a b p : Int) (w : World) : (Instr.index 55 (.agg #[.int .i64 r, .int .i64 i, .int .i64 ck, .int .i64 a, .int .i64 b, .int .i64 p]) (.int .i64 4)).run Tryd.prog w = .ok (.int .i64 b) w := by
  simp [Instr.index, run_underlying Tryd.underlying55, asIntOf, go_sem]
theorem idx6_5 (r i ck a b p : Int) (w : World) : (Instr.index 55 (.agg #[.int .i64 r, .int .i64 i, .int .i64 ck, .int .i64 a, .int .i64 b, .int .i64 p]) (.int .i64 5)).run Tryd.prog w = .ok (.int .i64 p) w := by
  simp [Instr.index, run_underlying Tryd.underlying55, asIntOf, go_sem]
theorem wf_fitsS {n : Int} (h : fits n = true) : (Lit.int .i64 n).wf = true := by
  obtain ⟨h1, h2⟩ := (fits_iff n).1 h
  simp only [Lit.wf, IntKind.min, IntKind.max, IntKind.signed, IntKind.bits, Bool.and_eq_true, decide_eq_true_eq, if_true]
  omega
theorem ok_ints : ∀ l : List Int, (∀ z ∈ l, fits z = true) → OkAll (List.replicate l.length (some IntKind.i64)) (ints l)
  | [], _ => trivial
  | z :: l, h => ⟨⟨z, rfl, wf_fitsS (h z (by simp))⟩, ok_ints l fun y hy => h y (by simp [hy])⟩
theorem flatS : flat Tryd.prog 5 27 = some (List.replicate 13 (some IntKind.i64)) := by kernel_rfl
theorem ne_step {x y : List Int} (hx : x.length = 13) (hy : y.length = 13) (fx : ∀ z ∈ x, fits z = true) (fy : ∀ z ∈ y, fits z = true) (w : World) : (binOp .neq 27 (.agg (ints x).toArray) (.agg (ints y).toArray)).run Tryd.prog w = .ok (.bool (!sameB (ints x) (ints y))) w :=
  neq_flat 5 6 27 _ _ _ w flatS (by kernel_rfl) (by kernel_rfl) (by kernel_rfl) (by decide) (by have := ok_ints x fx; rwa [hx] at this) (by have := ok_ints y fy; rwa [hy] at this)
theorem eq_step {x y : List Int} (hx : x.length = 13) (hy : y.length = 13) (fx : ∀ z ∈ x, fits z = true) (fy : ∀ z ∈ y, fits z = true) (w : World) : (binOp .eql 27 (.agg (ints x).toArray) (.agg (ints y).toArray)).run Tryd.prog w = .ok (.bool (sameB (ints x) (ints y))) w :=
  eql_flat 5 6 27 _ _ _ w flatS (by kernel_rfl) (by kernel_rfl) (by kernel_rfl) (by decide) (by have := ok_ints x fx; rwa [hx] at this) (by have := ok_ints y fy; rwa [hy] at this)
theorem fits0S : fits 0 = true := by decide
theorem ownL_len (k : Nat) (r i n ck a b cn p q : Int) (hk0 : 1 ≤ k) (hk : k < 16) : (ownL k r i n ck a b cn p q).length = 13 := by
  match k, hk0, hk with
  | 1, _, _ => rfl
  | 2, _, _ => rfl
  | 3, _, _ => rfl
  | 4, _, _ => rfl
  | 5, _, _ => rfl
  | 6, _, _ => rfl
  | 7, _, _ => rfl
  | 8, _, _ => rfl
  | 9, _, _ => rfl
  | 10, _, _ => rfl
  | 11, _, _ => rfl
  | 12, _, _ => rfl
  | 13, _, _ => rfl
  | 14, _, _ => rfl
  | 15, _, _ => rfl
  | k + 16, _, hk => exact absurd hk (by omega)
set_option maxRecDepth 100000 in
theorem ownL_fits (k : Nat) (r i n ck a b cn p q : Int) (hk0 : 1 ≤ k) (hk : k < 16) (fk : fits (k : Int) = true) (fr : fits r = true) (fi : fits i = true) (fn : fits n = true) (fck : fits ck = true) (fa : fits a = true) (fb : fits b = true) (fcn : fits cn = true) (fp : fits p = true) (fq : fits q = true) : ∀ z ∈ ownL k r i n ck a b cn p q, fits z = true := by
  rcases (show k = 1 ∨ k = 2 ∨ k = 3 ∨ k = 4 ∨ k = 5 ∨ k = 6 ∨ k = 7 ∨ k = 8 ∨ k = 9 ∨ k = 10 ∨ k = 11 ∨ k = 12 ∨ k = 13 ∨ k = 14 ∨ k = 15 by omega) with h | h | h | h | h | h | h | h | h | h | h | h | h | h | h
  · subst h; exact (List.forall_mem_cons.2 ⟨fk, (List.forall_mem_cons.2 ⟨fr, (List.forall_mem_cons.2 ⟨fits0S, (List.forall_mem_cons.2 ⟨fits0S, (List.forall_mem_cons.2 ⟨fits0S, (List.forall_mem_cons.2 ⟨fits0S, (List.forall_mem_cons.2 ⟨fits0S, (List.forall_mem_cons.2 ⟨fck, (List.forall_mem_cons.2 ⟨fa, (List.forall_mem_cons.2 ⟨fb, (List.forall_mem_cons.2 ⟨fcn, (List.forall_mem_cons.2 ⟨fp, (List.forall_mem_cons.2 ⟨fq, (fun _ h => by cases h)⟩)⟩)⟩)⟩)⟩)⟩)⟩)⟩)⟩)⟩)⟩)⟩)⟩)
  · subst h; exact (List.forall_mem_cons.2 ⟨fk, (List.forall_mem_cons.2 ⟨fr, (List.forall_mem_cons.2 ⟨fits0S, (List.forall_mem_cons.2 ⟨fits0S, (List.forall_mem_cons.2 ⟨fits0S, (List.forall_mem_cons.2 ⟨fits0S, (List.forall_mem_cons.2 ⟨fits0S, (List.forall_mem_cons.2 ⟨fits0S, (List.forall_mem_cons.2 ⟨fits0S, (List.forall_mem_cons.2 ⟨fits0S, (List.forall_mem_cons.2 ⟨fits0S, (List.forall_mem_cons.2 ⟨fits0S, (List.forall_mem_cons.2 ⟨fits0S, (fun _ h => by cases h)⟩)⟩)⟩)⟩)⟩)⟩)⟩)⟩)⟩)⟩)⟩)⟩)⟩)
  · subst h; exact (List.forall_mem_cons.2 ⟨fk, (List.forall_mem_cons.2 ⟨fr, (List.forall_mem_cons.2 ⟨fi, (List.forall_mem_cons.2 ⟨fits0S, (List.forall_mem_cons.2 ⟨fits0S, (List.forall_mem_cons.2 ⟨fits0S, (List.forall_mem_cons.2 ⟨fits0S, (List.forall_mem_cons.2 ⟨fits0S, (List.forall_mem_cons.2 ⟨fits0S, (List.forall_mem_cons.2 ⟨fits0S, (List.forall_mem_cons.2 ⟨fits0S, (List.forall_mem_cons.2 ⟨fits0S, (List.forall_mem_cons.2 ⟨fits0S, (fun _ h => by cases h)⟩)⟩)⟩)⟩)⟩)⟩)⟩)⟩)⟩)⟩)⟩)⟩)⟩)
  · subst h; exact (List.forall_mem_cons.2 ⟨fk, (List.forall_mem_cons.2 ⟨fits0S, (List.forall_mem_cons.2 ⟨fits0S, (List.forall_mem_cons.2 ⟨fn, (List.forall_mem_cons.2 ⟨fits0S, (List.forall_mem_cons.2 ⟨fits0S, (List.forall_mem_cons.2 ⟨fits0S, (List.forall_mem_cons.2 ⟨fits0S, (List.forall_mem_cons.2 ⟨fits0S, (List.forall_mem_cons.2 ⟨fits0S, (List.forall_mem_cons.2 ⟨fits0S, (List.forall_mem_cons.2 ⟨fits0S, (List.forall_mem_cons.2 ⟨fits0S, (fun _ h => by cases h)⟩)⟩)⟩)⟩)⟩)⟩)⟩)⟩)⟩)⟩)⟩)⟩)⟩)
  · subst h; exact (List.forall_mem_cons.2 ⟨fk, (List.forall_mem_cons.2 ⟨fr, (List.forall_mem_cons.2 ⟨fits0S, (List.forall_mem_cons.2 ⟨fits0S, (List.forall_mem_cons.2 ⟨fits0S, (List.forall_mem_cons.2 ⟨fits0S, (List.forall_mem_cons.2 ⟨fits0S, (List.forall_mem_cons.2 ⟨fits0S, (List.forall_mem_cons.2 ⟨fits0S, (List.forall_mem_cons.2 ⟨fits0S, (List.forall_mem_cons.2 ⟨fits0S, (List.forall_mem_cons.2 ⟨fits0S, (List.forall_mem_cons.2 ⟨fits0S, (fun _ h => by cases h)⟩)⟩)⟩)⟩)⟩)⟩)⟩)⟩)⟩)⟩)⟩)⟩)⟩)
  · subst h; exact (List.forall_mem_cons.2 ⟨fk, (List.forall_mem_cons.2 ⟨fits0S, (List.forall_mem_cons.2 ⟨fits0S, (List.forall_mem_cons.2 ⟨fn, (List.forall_mem_cons.2 ⟨fits0S, (List.forall_mem_cons.2 ⟨fits0S, (List.forall_mem_cons.2 ⟨fits0S, (List.forall_mem_cons.2 ⟨fits0S, (List.forall_mem_cons.2 ⟨fits0S, (List.forall_mem_cons.2 ⟨fits0S, (List.forall_mem_cons.2 ⟨fits0S, (List.forall_mem_cons.2 ⟨fits0S, (List.forall_mem_cons.2 ⟨fits0S, (fun _ h => by cases h)⟩)⟩)⟩)⟩)⟩)⟩)⟩)⟩)⟩)⟩)⟩)⟩)⟩)
  · subst h; exact (List.forall_mem_cons.2 ⟨fk, (List.forall_mem_cons.2 ⟨fits0S, (List.forall_mem_cons.2 ⟨fi, (List.forall_mem_cons.2 ⟨fits0S, (List.forall_mem_cons.2 ⟨fits0S, (List.forall_mem_cons.2 ⟨fits0S, (List.forall_mem_cons.2 ⟨fits0S, (List.forall_mem_cons.2 ⟨fits0S, (List.forall_mem_cons.2 ⟨fits0S, (List.forall_mem_cons.2 ⟨fits0S, (List.forall_mem_cons.2 ⟨fits0S, (List.forall_mem_cons.2 ⟨fits0S, (List.forall_mem_cons.2 ⟨fits0S, (fun _ h => by cases h)⟩)⟩)⟩)⟩)⟩)⟩)⟩)⟩)⟩)⟩)⟩)⟩)⟩)
  · subst h; exact (List.forall_mem_cons.2 ⟨fk, (List.forall_mem_cons.2 ⟨fits0S, (List.forall_mem_cons.2 ⟨fi, (List.forall_mem_cons.2 ⟨fits0S, (List.forall_mem_cons.2 ⟨fits0S, (List.forall_mem_cons.2 ⟨fits0S, (List.forall_mem_cons.2 ⟨fits0S, (List.forall_mem_cons.2 ⟨fits0S, (List.forall_mem_cons.2 ⟨fits0S, (List.forall_mem_cons.2 ⟨fits0S, (List.forall_mem_cons.2 ⟨fits0S, (List.forall_mem_cons.2 ⟨fits0S, (List.forall_mem_cons.2 ⟨fits0S, (fun _ h => by cases h)⟩)⟩)⟩)⟩)⟩)⟩)⟩)⟩)⟩)⟩)⟩)⟩)⟩)
  · subst h; exact (List.forall_mem_cons.2 ⟨fk, (List.forall_mem_cons.2 ⟨fits0S, (List.forall_mem_cons.2 ⟨fi, (List.forall_mem_cons.2 ⟨fits0S, (List.forall_mem_cons.2 ⟨fits0S, (List.forall_mem_cons.2 ⟨fits0S, (List.forall_mem_cons.2 ⟨fits0S, (List.forall_mem_cons.2 ⟨fits0S, (List.forall_mem_cons.2 ⟨fits0S, (List.forall_mem_cons.2 ⟨fits0S, (List.forall_mem_cons.2 ⟨fits0S, (List.forall_mem_cons.2 ⟨fits0S, (List.forall_mem_cons.2 ⟨fits0S, (fun _ h => by cases h)⟩)⟩)⟩)⟩)⟩)⟩)⟩)⟩)⟩)⟩)⟩)⟩)⟩)
  · subst h; exact (List.forall_mem_cons.2 ⟨fk, (List.forall_mem_cons.2 ⟨fits0S, (List.forall_mem_cons.2 ⟨fi, (List.forall_mem_cons.2 ⟨fn, (List.forall_mem_cons.2 ⟨fits0S, (List.forall_mem_cons.2 ⟨fits0S, (List.forall_mem_cons.2 ⟨fits0S, (List.forall_mem_cons.2 ⟨fits0S, (List.forall_mem_cons.2 ⟨fits0S, (List.forall_mem_cons.2 ⟨fits0S, (List.forall_mem_cons.2 ⟨fits0S, (List.forall_mem_cons.2 ⟨fits0S, (List.forall_mem_cons.2 ⟨fits0S, (fun _ h => by cases h)⟩)⟩)⟩)⟩)⟩)⟩)⟩)⟩)⟩)⟩)⟩)⟩)⟩)
  · subst h; exact (List.forall_mem_cons.2 ⟨fk, (List.forall_mem_cons.2 ⟨fits0S, (List.forall_mem_cons.2 ⟨fits0S, (List.forall_mem_cons.2 ⟨fn, (List.forall_mem_cons.2 ⟨fits0S, (List.forall_mem_cons.2 ⟨fits0S, (List.forall_mem_cons.2 ⟨fits0S, (List.forall_mem_cons.2 ⟨fits0S, (List.forall_mem_cons.2 ⟨fits0S, (List.forall_mem_cons.2 ⟨fits0S, (List.forall_mem_cons.2 ⟨fits0S, (List.forall_mem_cons.2 ⟨fits0S, (List.forall_mem_cons.2 ⟨fits0S, (fun _ h => by cases h)⟩)⟩)⟩)⟩)⟩)⟩)⟩)⟩)⟩)⟩)⟩)⟩)⟩)
  · subst h; exact (List.forall_mem_cons.2 ⟨fk, (List.forall_mem_cons.2 ⟨fr, (List.forall_mem_cons.2 ⟨fits0S, (List.forall_mem_cons.2 ⟨fits0S, (List.forall_mem_cons.2 ⟨fits0S, (List.forall_mem_cons.2 ⟨fits0S, (List.forall_mem_cons.2 ⟨fits0S, (List.forall_mem_cons.2 ⟨fits0S, (List.forall_mem_cons.2 ⟨fits0S, (List.forall_mem_cons.2 ⟨fits0S, (List.forall_mem_cons.2 ⟨fits0S, (List.forall_mem_cons.2 ⟨fits0S, (List.forall_mem_cons.2 ⟨fits0S, (fun _ h => by cases h)⟩)⟩)⟩)⟩)⟩)⟩)⟩)⟩)⟩)⟩)⟩)⟩)⟩)
  · subst h; exact (List.forall_mem_cons.2 ⟨fk, (List.forall_mem_cons.2 ⟨fr, (List.forall_mem_cons.2 ⟨fits0S, (List.forall_mem_cons.2 ⟨fits0S, (List.forall_mem_cons.2 ⟨fits0S, (List.forall_mem_cons.2 ⟨fits0S, (List.forall_mem_cons.2 ⟨fits0S, (List.forall_mem_cons.2 ⟨fits0S, (List.forall_mem_cons.2 ⟨fits0S, (List.forall_mem_cons.2 ⟨fits0S, (List.forall_mem_cons.2 ⟨fits0S, (List.forall_mem_cons.2 ⟨fits0S, (List.forall_mem_cons.2 ⟨fits0S, (fun _ h => by cases h)⟩)⟩)⟩)⟩)⟩)⟩)⟩)⟩)⟩)⟩)⟩)⟩)⟩)
  · subst h; exact (List.forall_mem_cons.2 ⟨fk, (List.forall_mem_cons.2 ⟨fr, (List.forall_mem_cons.2 ⟨fits0S, (List.forall_mem_cons.2 ⟨fn, (List.forall_mem_cons.2 ⟨fits0S, (List.forall_mem_cons.2 ⟨fits0S, (List.forall_mem_cons.2 ⟨fits0S, (List.forall_mem_cons.2 ⟨fits0S, (List.forall_mem_cons.2 ⟨fits0S, (List.forall_mem_cons.2 ⟨fits0S, (List.forall_mem_cons.2 ⟨fits0S, (List.forall_mem_cons.2 ⟨fits0S, (List.forall_mem_cons.2 ⟨fits0S, (fun _ h => by cases h)⟩)⟩)⟩)⟩)⟩)⟩)⟩)⟩)⟩)⟩)⟩)⟩)⟩)
  · subst h; exact (List.forall_mem_cons.2 ⟨fk, (List.forall_mem_cons.2 ⟨fr, (List.forall_mem_cons.2 ⟨fits0S, (List.forall_mem_cons.2 ⟨fits0S, (List.forall_mem_cons.2 ⟨fits0S, (List.forall_mem_cons.2 ⟨fits0S, (List.forall_mem_cons.2 ⟨fits0S, (List.forall_mem_cons.2 ⟨fits0S, (List.forall_mem_cons.2 ⟨fits0S, (List.forall_mem_cons.2 ⟨fits0S, (List.forall_mem_cons.2 ⟨fits0S, (List.forall_mem_cons.2 ⟨fits0S, (List.forall_mem_cons.2 ⟨fits0S, (fun _ h => by cases h)⟩)⟩)⟩)⟩)⟩)⟩)⟩)⟩)⟩)⟩)⟩)⟩)⟩)
def allOct (l : List Int) : Bool := l.all fun z => inB z 0 255
/-- a step's error: 0 where it may be. -/
def chkS (k r i n i1 i2 t ck a b cn p q : Int) : Int :=
  if k < 1 ∨ 15 < k then 12
  else if inB n 0 2147483647 = false ∨ q < 0 ∨ 65535 < q then 4
  else if allOct [r, i, ck, a, b, p] = false then 4
  else if sameB (ints [k, r, i, n, i1, i2, t, ck, a, b, cn, p, q]) (ints (ownL k.toNat r i n ck a b cn p q)) = true then 0 else 16
set_option maxRecDepth 100000 in
set_option maxHeartbeats 8000000 in
theorem chk31_any (k r i n i1 i2 t ck a b cn p q : Int) (w : World) (hf : Hid (∀ z ∈ ([k, r, i, n, i1, i2, t, ck, a, b, cn, p, q] : List Int), fits z = true)) (hT : Hid (TabF w)) (hG : 0 < w.heap.size) :
    Calls Tryd.prog 10 #[.agg #[.int .i64 k, .int .i64 r, .int .i64 i, .int .i64 n, .int .i64 i1, .int .i64 i2, .int .i64 t, .int .i64 ck, .int .i64 a, .int .i64 b, .int .i64 cn, .int .i64 p, .int .i64 q]] w fun e w' => e = .returned (.int .i64 (chkS k r i n i1 i2 t ck a b cn p q)) ∧ Below w.heap.size w w' := by
  have HA := Lib.hid (Blk.new w #[.int .i64 k, .int .i64 r, .int .i64 i, .int .i64 n, .int .i64 i1, .int .i64 i2, .int .i64 t, .int .i64 ck, .int .i64 a, .int .i64 b, .int .i64 cn, .int .i64 p, .int .i64 q] 27)
  have HB := Lib.hid ((Below.refl w.heap.size w).alloc (Nat.le_refl _) (.cells #[.int .i64 k, .int .i64 r, .int .i64 i, .int .i64 n, .int .i64 i1, .int .i64 i2, .int .i64 t, .int .i64 ck, .int .i64 a, .int .i64 b, .int .i64 cn, .int .i64 p, .int .i64 q] 27))
  have EQ : Hid (chkS k r i n i1 i2 t ck a b cn p q = chkS k r i n i1 i2 t ck a b cn p q) := Lib.hid rfl
  go_enter Tryd.func10, Tryd.ntmps10
  go_upto_region 1 with fail
  have hz : w.heap.size < (w.alloc (.cells #[.int .i64 k, .int .i64 r, .int .i64 i, .int .i64 n, .int .i64 i1, .int .i64 i2, .int .i64 t, .int .i64 ck, .int .i64 a, .int .i64 b, .int .i64 cn, .int .i64 p, .int .i64 q] 27)).heap.size := by simp
  generalize w.alloc (.cells #[.int .i64 k, .int .i64 r, .int .i64 i, .int .i64 n, .int .i64 i1, .int .i64 i2, .int .i64 t, .int .i64 ck, .int .i64 a, .int .i64 b, .int .i64 cn, .int .i64 p, .int .i64 q] 27) = W at *
  have c0 : W.cell? ⟨w.heap.size, 0, none⟩ = some (.int .i64 k) := HA.out.cell 0
  have c1 : W.cell? ⟨w.heap.size, 1, none⟩ = some (.int .i64 r) := HA.out.cell 1
  have c2 : W.cell? ⟨w.heap.size, 2, none⟩ = some (.int .i64 i) := HA.out.cell 2
  have c3 : W.cell? ⟨w.heap.size, 3, none⟩ = some (.int .i64 n) := HA.out.cell 3
  have c4 : W.cell? ⟨w.heap.size, 4, none⟩ = some (.int .i64 i1) := HA.out.cell 4
  have c5 : W.cell? ⟨w.heap.size, 5, none⟩ = some (.int .i64 i2) := HA.out.cell 5
  have c6 : W.cell? ⟨w.heap.size, 6, none⟩ = some (.int .i64 t) := HA.out.cell 6
  have c7 : W.cell? ⟨w.heap.size, 7, none⟩ = some (.int .i64 ck) := HA.out.cell 7
  have c8 : W.cell? ⟨w.heap.size, 8, none⟩ = some (.int .i64 a) := HA.out.cell 8
  have c9 : W.cell? ⟨w.heap.size, 9, none⟩ = some (.int .i64 b) := HA.out.cell 9
  have c10 : W.cell? ⟨w.heap.size, 10, none⟩ = some (.int .i64 cn) := HA.out.cell 10
  have c11 : W.cell? ⟨w.heap.size, 11, none⟩ = some (.int .i64 p) := HA.out.cell 11
  have c12 : W.cell? ⟨w.heap.size, 12, none⟩ = some (.int .i64 q) := HA.out.cell 12
  have CN := Lib.hid (fun w => maynum_any n w)
  have CB := Lib.hid (fun z w => maybyte_any z w)
  by_cases h1 : k < 1
  · have E : Hid (chkS k r i n i1 i2 t ck a b cn p q = 12) := Lib.hid (by unfold chkS; rw [if_pos (Or.inl h1)])
    go_wp2_with fail
    go_ret
    exact ⟨by rw [E.out]; rfl, HB.out⟩
  by_cases h2 : k > 15
  · have E : Hid (chkS k r i n i1 i2 t ck a b cn p q = 12) := Lib.hid (by unfold chkS; rw [if_pos (Or.inr h2)])
    go_wp2_with fail
    go_ret
    exact ⟨by rw [E.out]; rfl, HB.out⟩
  have N1 : Hid (¬ (k < 1 ∨ 15 < k)) := Lib.hid (by omega)
  rcases hn : inB n 0 2147483647 with _ | _
  · have E : Hid (chkS k r i n i1 i2 t ck a b cn p q = 4) := Lib.hid (by unfold chkS; rw [if_neg N1.out, if_pos (Or.inl hn)])
    rw [hn] at CN
    clear hn
    go_wp2_with fail
    refine (CN.out _).mono ?_
    rintro e w2 ⟨rfl, rfl⟩
    go_wp2_with fail
    go_ret
    exact ⟨by rw [E.out]; rfl, HB.out⟩
  have HN := Lib.hid hn
  rw [hn] at CN
  clear hn
  go_upto_region 3 with fail
  go_wp2_with fail
  refine (CN.out _).mono ?_
  rintro e w2 ⟨rfl, rfl⟩
  by_cases h3 : q < 0
  · have E : Hid (chkS k r i n i1 i2 t ck a b cn p q = 4) := Lib.hid (by unfold chkS; rw [if_neg N1.out, if_pos (Or.inr (Or.inl h3))])
    go_wp2_with fail
    go_ret
    exact ⟨by rw [E.out]; rfl, HB.out⟩
  by_cases h4 : q > 65535
  · have E : Hid (chkS k r i n i1 i2 t ck a b cn p q = 4) := Lib.hid (by unfold chkS; rw [if_neg N1.out, if_pos (Or.inr (Or.inr h4))])
    go_wp2_with fail
    go_ret
    exact ⟨by rw [E.out]; rfl, HB.out⟩
  have N2 : Hid (¬ (inB n 0 2147483647 = false ∨ q < 0 ∨ 65535 < q)) := Lib.hid (by rw [HN.out]; intro hh; rcases hh with hh | hh | hh; (· cases hh); (· exact h3 hh); (· exact h4 hh))
  go_upto_region 6 with fail
  have HNO := Lib.hid (fun (h : allOct [r, i, ck, a, b, p] = false) => show chkS k r i n i1 i2 t ck a b cn p q = 4 by unfold chkS; rw [if_neg N1.out, if_neg N2.out, if_pos h])
  have x0 := idx6_0 r i ck a b p
  have x1 := idx6_1 r i ck a b p
  have x2 := idx6_2 r i ck a b p
  have x3 := idx6_3 r i ck a b p
  have x4 := idx6_4 r i ck a b p
  have x5 := idx6_5 r i ck a b p
  clear EQ h1 h2 h3 h4
  go_loopg [49] 6 (fun qq s49 wr => ∃ j : Nat, qq + j = 6 ∧ s49 = .int .i64 j ∧ allOct (([r, i, ck, a, b, p] : List Int).take j) = true ∧ W = wr)
  case atStart => exact ⟨0, rfl, rfl, rfl, rfl⟩
  case round =>
    obtain ⟨j, hqi, rfl, hh, rfl⟩ := hrel
    have HH := Lib.hid hh
    clear hh
    rcases (show j = 0 ∨ j = 1 ∨ j = 2 ∨ j = 3 ∨ j = 4 ∨ j = 5 ∨ j = 6 by omega) with hj | hj | hj | hj | hj | hj | hj
    · obtain rfl : j = 0 := by omega
      rcases hb : inB r 0 255 with _ | _
      · have E := Lib.hid (HNO.out (by unfold allOct; simp [hb]))
        have CZ := Lib.hid (fun w => by have := CB.out r w; rwa [hb] at this)
        clear hb
        go_wp2_with fail
        refine (CZ.out _).mono ?_
        rintro e w3 ⟨rfl, rfl⟩
        go_wp2_with fail
        go_ret
        exact ⟨by rw [E.out]; rfl, HB.out⟩
      · have HH2 : Hid (allOct (([r, i, ck, a, b, p] : List Int).take 1) = true) := Lib.hid (by have := HH.out; unfold allOct at *; simp at *; simp [*])
        have CZ := Lib.hid (fun w => by have := CB.out r w; rwa [hb] at this)
        clear hb
        go_wp2_with fail
        refine (CZ.out _).mono ?_
        rintro e w3 ⟨rfl, rfl⟩
        go_wp2_with fail
        go_roundg (gk - 1)
        case measure => omega
        case rel => exact ⟨1, by omega, by go_num, HH2.out, rfl⟩
    · obtain rfl : j = 1 := by omega
      rcases hb : inB i 0 255 with _ | _
      · have E := Lib.hid (HNO.out (by unfold allOct; simp [hb]))
        have CZ := Lib.hid (fun w => by have := CB.out i w; rwa [hb] at this)
        clear hb
        go_wp2_with fail
        refine (CZ.out _).mono ?_
        rintro e w3 ⟨rfl, rfl⟩
        go_wp2_with fail
        go_ret
        exact ⟨by rw [E.out]; rfl, HB.out⟩
      · have HH2 : Hid (allOct (([r, i, ck, a, b, p] : List Int).take 2) = true) := Lib.hid (by have := HH.out; unfold allOct at *; simp at *; simp [*])
        have CZ := Lib.hid (fun w => by have := CB.out i w; rwa [hb] at this)
        clear hb
        go_wp2_with fail
        refine (CZ.out _).mono ?_
        rintro e w3 ⟨rfl, rfl⟩
        go_wp2_with fail
        go_roundg (gk - 1)
        case measure => omega
        case rel => exact ⟨2, by omega, by go_num, HH2.out, rfl⟩
    · obtain rfl : j = 2 := by omega
      rcases hb : inB ck 0 255 with _ | _
      · have E := Lib.hid (HNO.out (by unfold allOct; simp [hb]))
        have CZ := Lib.hid (fun w => by have := CB.out ck w; rwa [hb] at this)
        clear hb
        go_wp2_with fail
        refine (CZ.out _).mono ?_
        rintro e w3 ⟨rfl, rfl⟩
        go_wp2_with fail
        go_ret
        exact ⟨by rw [E.out]; rfl, HB.out⟩
      · have HH2 : Hid (allOct (([r, i, ck, a, b, p] : List Int).take 3) = true) := Lib.hid (by have := HH.out; unfold allOct at *; simp at *; simp [*])
        have CZ := Lib.hid (fun w => by have := CB.out ck w; rwa [hb] at this)
        clear hb
        go_wp2_with fail
        refine (CZ.out _).mono ?_
        rintro e w3 ⟨rfl, rfl⟩
        go_wp2_with fail
        go_roundg (gk - 1)
        case measure => omega
        case rel => exact ⟨3, by omega, by go_num, HH2.out, rfl⟩
    · obtain rfl : j = 3 := by omega
      rcases hb : inB a 0 255 with _ | _
      · have E := Lib.hid (HNO.out (by unfold allOct; simp [hb]))
        have CZ := Lib.hid (fun w => by have := CB.out a w; rwa [hb] at this)
        clear hb
        go_wp2_with fail
        refine (CZ.out _).mono ?_
        rintro e w3 ⟨rfl, rfl⟩
        go_wp2_with fail
        go_ret
        exact ⟨by rw [E.out]; rfl, HB.out⟩
      · have HH2 : Hid (allOct (([r, i, ck, a, b, p] : List Int).take 4) = true) := Lib.hid (by have := HH.out; unfold allOct at *; simp at *; simp [*])
        have CZ := Lib.hid (fun w => by have := CB.out a w; rwa [hb] at this)
        clear hb
        go_wp2_with fail
        refine (CZ.out _).mono ?_
        rintro e w3 ⟨rfl, rfl⟩
        go_wp2_with fail
        go_roundg (gk - 1)
        case measure => omega
        case rel => exact ⟨4, by omega, by go_num, HH2.out, rfl⟩
    · obtain rfl : j = 4 := by omega
      rcases hb : inB b 0 255 with _ | _
      · have E := Lib.hid (HNO.out (by unfold allOct; simp [hb]))
        have CZ := Lib.hid (fun w => by have := CB.out b w; rwa [hb] at this)
        clear hb
        go_wp2_with fail
        refine (CZ.out _).mono ?_
        rintro e w3 ⟨rfl, rfl⟩
        go_wp2_with fail
        go_ret
        exact ⟨by rw [E.out]; rfl, HB.out⟩
      · have HH2 : Hid (allOct (([r, i, ck, a, b, p] : List Int).take 5) = true) := Lib.hid (by have := HH.out; unfold allOct at *; simp at *; simp [*])
        have CZ := Lib.hid (fun w => by have := CB.out b w; rwa [hb] at this)
        clear hb
        go_wp2_with fail
        refine (CZ.out _).mono ?_
        rintro e w3 ⟨rfl, rfl⟩
        go_wp2_with fail
        go_roundg (gk - 1)
        case measure => omega
        case rel => exact ⟨5, by omega, by go_num, HH2.out, rfl⟩
    · obtain rfl : j = 5 := by omega
      rcases hb : inB p 0 255 with _ | _
      · have E := Lib.hid (HNO.out (by unfold allOct; simp [hb]))
        have CZ := Lib.hid (fun w => by have := CB.out p w; rwa [hb] at this)
        clear hb
        go_wp2_with fail
        refine (CZ.out _).mono ?_
        rintro e w3 ⟨rfl, rfl⟩
        go_wp2_with fail
        go_ret
        exact ⟨by rw [E.out]; rfl, HB.out⟩
      · have HH2 : Hid (allOct (([r, i, ck, a, b, p] : List Int).take 6) = true) := Lib.hid (by have := HH.out; unfold allOct at *; simp at *; simp [*])
        have CZ := Lib.hid (fun w => by have := CB.out p w; rwa [hb] at this)
        clear hb
        go_wp2_with fail
        refine (CZ.out _).mono ?_
        rintro e w3 ⟨rfl, rfl⟩
        go_wp2_with fail
        go_roundg (gk - 1)
        case measure => omega
        case rel => exact ⟨6, by omega, by go_num, HH2.out, rfl⟩
    · obtain rfl : j = 6 := by omega
      obtain ⟨kk, rfl⟩ := Int.eq_ofNat_of_zero_le (show 0 ≤ k by have := N1.out; omega)
      have hk0 : 1 ≤ kk := by have := N1.out; omega
      have hk : kk < 16 := by have := N1.out; omega
      have N3 : Hid (¬ allOct [r, i, ck, a, b, p] = false) := Lib.hid (by have := HH.out; intro h; rw [show (([r, i, ck, a, b, p] : List Int).take 6) = [r, i, ck, a, b, p] from rfl, h] at this; cases this)
      have hTW : TabF W := hT.out.keep HB.out hG
      have hGW : 0 < W.heap.size := Nat.lt_of_lt_of_le hG HB.out.size
      have CO := Lib.hid (fun w' (hb : Below W.heap.size W w') => show Calls Tryd.prog 25 #[.agg (ints [(kk : Int), r, i, n, i1, i2, t, ck, a, b, cn, p, q]).toArray] w' fun e w'' => e = .returned (.agg (ints (ownL kk r i n ck a b cn p q)).toArray) ∧ Below w'.heap.size w' w'' from own_any kk r i n i1 i2 t ck a b cn p q w' hk0 hk (hTW.keep hb hGW))
      have LO := Lib.hid (ownL_len kk r i n ck a b cn p q hk0 hk)
      have NE := Lib.hid (fun w => ne_step (x := [(kk : Int), r, i, n, i1, i2, t, ck, a, b, cn, p, q]) rfl LO.out hf.out (ownL_fits kk r i n ck a b cn p q hk0 hk (hf.out _ (by simp)) (hf.out _ (by simp)) (hf.out _ (by simp)) (hf.out _ (by simp)) (hf.out _ (by simp)) (hf.out _ (by simp)) (hf.out _ (by simp)) (hf.out _ (by simp)) (hf.out _ (by simp)) (hf.out _ (by simp))) w)
      have EE : Hid (chkS (kk : Int) r i n i1 i2 t ck a b cn p q = if sameB (ints [(kk : Int), r, i, n, i1, i2, t, ck, a, b, cn, p, q]) (ints (ownL kk r i n ck a b cn p q)) = true then 0 else 16) := Lib.hid (by
        unfold chkS; rw [if_neg N1.out, if_neg N2.out, if_neg N3.out]; rfl)
      generalize ownL kk r i n ck a b cn p q = Y at *
      generalize hsb : sameB (ints [(kk : Int), r, i, n, i1, i2, t, ck, a, b, cn, p, q]) (ints Y) = sb at *
      clear hsb
      have LX : Hid ((Tryd.prog.info? 27).map (·.size) = some 13) := Lib.hid rowS.2
      have HAX : Hid (Blk W w.heap.size (ints [(kk : Int), r, i, n, i1, i2, t, ck, a, b, cn, p, q]) 27) := HA
      have EX : Hid ((ints [(kk : Int), r, i, n, i1, i2, t, ck, a, b, cn, p, q]).toArray = #[.int .i64 (kk : Int), .int .i64 r, .int .i64 i, .int .i64 n, .int .i64 i1, .int .i64 i2, .int .i64 t, .int .i64 ck, .int .i64 a, .int .i64 b, .int .i64 cn, .int .i64 p, .int .i64 q]) := Lib.hid rfl
      go_upto_region 11 with fail
      refine q_begin (by kernel_rfl) (by kernel_rfl) ?_
      repeat (first
        | go_big_quiet_skip
        | ((with_reducible apply q_row (cs := ints [(kk : Int), r, i, n, i1, i2, t, ck, a, b, cn, p, q])); (· rfl); (· rfl); (· exact Tryd.underlying27); (· rfl); (· exact HAX.out); (· exact hz); (· exact LX.out); (simp only [Act.put, List.setIfInBounds_toArray, List.set_cons_zero, List.set_cons_succ]))
        | ((with_reducible apply q_call 25 (.agg (ints Y).toArray)); (· rfl); (· exact Nat.le_refl _); (· intro w' hb'; exact CO.out w' hb'); (· intro w'; go_simp); (simp only [Act.put, List.setIfInBounds_toArray, List.set_cons_zero, List.set_cons_succ]))
        | ((with_reducible apply q_cmp (v := .bool (!sb))); (· rfl); (· rfl); (· rfl); (· kernel_rfl); (· intro w; exact NE.out w); (simp only [Act.put, List.setIfInBounds_toArray, List.set_cons_zero, List.set_cons_succ]))
        | (go_big_quiet_want; go_big_quiet_op; (first | go_big_quiet_on | (apply Exists.intro; refine ⟨fun _ _ => rfl, ?_⟩; go_big_quiet_on))))
      refine q_end ?_
      intro w9 hb9
      have HB9 := Lib.hid (HB.out.trans (hb9.mono HB.out.size))
      rcases sb with _ | _
      · go_wp2_with fail
        go_ret
        exact ⟨by rw [EE.out]; rfl, HB9.out⟩
      · go_wp2_with fail
        go_ret
        exact ⟨by rw [EE.out]; rfl, HB9.out⟩
end Go.Proofs.YteijahcbfncebaaDoor
