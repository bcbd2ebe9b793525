/- Requests that were tried. -/
import Derived.Test.YtalbkpahphndiaaEff
import Derived.Test.YtalbkpahphndiaaNum
import Derived.BigQuiet
import Derived.Deep.QuietTactic
import Derived.Lib.SmallJoins
import Derived.Test.YtalbkpahphndiaaRow
import Derived.Test.YtalbkpahphndiaaOps
import Derived.RegionTactic
import Derived.BigRegion
import Derived.ChangeAlike
namespace Go.Proofs.Ytalbkpahphndiaa
set_option linter.unusedVariables false
set_option linter.unusedSimpArgs false
open Go.ChangeShapes Go.WideShapes Go.ChangeAt Go.RowKit
set_option maxHeartbeats 2000000 in
theorem undoes_any (o k a n p q s l : Int) (ak gn : Bool) (b bl : Int) (w : World) : Calls Try.prog 26 #[.agg #[.int .i64 o, .int .i64 k, .int .i64 a, .int .i64 n, .int .i64 p, .int .i64 q, .int .i64 s, .int .i64 l, .bool ak, .bool gn, .int .i64 b, .int .i64 bl]] w fun e w' => e = .returned (.bool (ak && gn)) ∧ Below w.heap.size w w' := by
  have A := Blk.new w #[.int .i64 o, .int .i64 k, .int .i64 a, .int .i64 n, .int .i64 p, .int .i64 q, .int .i64 s, .int .i64 l, .bool ak, .bool gn, .int .i64 b, .int .i64 bl] 49
  have HB := Lib.hid ((Below.refl w.heap.size w).alloc (Nat.le_refl _) (.cells #[.int .i64 o, .int .i64 k, .int .i64 a, .int .i64 n, .int .i64 p, .int .i64 q, .int .i64 s, .int .i64 l, .bool ak, .bool gn, .int .i64 b, .int .i64 bl] 49))
  go_enter Try.func26, Try.ntmps26
  go_upto_region 1 with fail
  generalize w.alloc (.cells #[.int .i64 o, .int .i64 k, .int .i64 a, .int .i64 n, .int .i64 p, .int .i64 q, .int .i64 s, .int .i64 l, .bool ak, .bool gn, .int .i64 b, .int .i64 bl] 49) = W at *
  have c0 : W.cell? ⟨w.heap.size, 0, none⟩ = some (.int .i64 o) := A.cell 0
  have c1 : W.cell? ⟨w.heap.size, 1, none⟩ = some (.int .i64 k) := A.cell 1
  have c2 : W.cell? ⟨w.heap.size, 2, none⟩ = some (.int .i64 a) := A.cell 2
  have c3 : W.cell? ⟨w.heap.size, 3, none⟩ = some (.int .i64 n) := A.cell 3
  have c4 : W.cell? ⟨w.heap.size, 4, none⟩ = some (.int .i64 p) := A.cell 4
  have c5 : W.cell? ⟨w.heap.size, 5, none⟩ = some (.int .i64 q) := A.cell 5
  have c6 : W.cell? ⟨w.heap.size, 6, none⟩ = some (.int .i64 s) := A.cell 6
  have c7 : W.cell? ⟨w.heap.size, 7, none⟩ = some (.int .i64 l) := A.cell 7
  have c8 : W.cell? ⟨w.heap.size, 8, none⟩ = some (.bool ak) := A.cell 8
  have c9 : W.cell? ⟨w.heap.size, 9, none⟩ = some (.bool gn) := A.cell 9
  have c10 : W.cell? ⟨w.heap.size, 10, none⟩ = some (.int .i64 b) := A.cell 10
  have c11 : W.cell? ⟨w.heap.size, 11, none⟩ = some (.int .i64 bl) := A.cell 11
  clear A
  cases ak <;> cases gn
  all_goals (go_wp2_with fail; go_ret; exact ⟨rfl, HB.out⟩)
set_option maxHeartbeats 2000000 in
theorem open_any (o k a n p q s l : Int) (ak gn : Bool) (b bl : Int) (w : World) : Calls Try.prog 24 #[.agg #[.int .i64 o, .int .i64 k, .int .i64 a, .int .i64 n, .int .i64 p, .int .i64 q, .int .i64 s, .int .i64 l, .bool ak, .bool gn, .int .i64 b, .int .i64 bl]] w fun e w' => e = .returned (.bool (!ak || gn)) ∧ Below w.heap.size w w' := by
  have A := Blk.new w #[.int .i64 o, .int .i64 k, .int .i64 a, .int .i64 n, .int .i64 p, .int .i64 q, .int .i64 s, .int .i64 l, .bool ak, .bool gn, .int .i64 b, .int .i64 bl] 49
  have HB := Lib.hid ((Below.refl w.heap.size w).alloc (Nat.le_refl _) (.cells #[.int .i64 o, .int .i64 k, .int .i64 a, .int .i64 n, .int .i64 p, .int .i64 q, .int .i64 s, .int .i64 l, .bool ak, .bool gn, .int .i64 b, .int .i64 bl] 49))
  go_enter Try.func24, Try.ntmps24
  go_upto_region 1 with fail
  generalize w.alloc (.cells #[.int .i64 o, .int .i64 k, .int .i64 a, .int .i64 n, .int .i64 p, .int .i64 q, .int .i64 s, .int .i64 l, .bool ak, .bool gn, .int .i64 b, .int .i64 bl] 49) = W at *
  have c0 : W.cell? ⟨w.heap.size, 0, none⟩ = some (.int .i64 o) := A.cell 0
  have c1 : W.cell? ⟨w.heap.size, 1, none⟩ = some (.int .i64 k) := A.cell 1
  have c2 : W.cell? ⟨w.heap.size, 2, none⟩ = some (.int .i64 a) := A.cell 2
  have c3 : W.cell? ⟨w.heap.size, 3, none⟩ = some (.int .i64 n) := A.cell 3
  have c4 : W.cell? ⟨w.heap.size, 4, none⟩ = some (.int .i64 p) := A.cell 4
  have c5 : W.cell? ⟨w.heap.size, 5, none⟩ = some (.int .i64 q) := A.cell 5
  have c6 : W.cell? ⟨w.heap.size, 6, none⟩ = some (.int .i64 s) := A.cell 6
  have c7 : W.cell? ⟨w.heap.size, 7, none⟩ = some (.int .i64 l) := A.cell 7
  have c8 : W.cell? ⟨w.heap.size, 8, none⟩ = some (.bool ak) := A.cell 8
  have c9 : W.cell? ⟨w.heap.size, 9, none⟩ = some (.bool gn) := A.cell 9
  have c10 : W.cell? ⟨w.heap.size, 10, none⟩ = some (.int .i64 b) := A.cell 10
  have c11 : W.cell? ⟨w.heap.size, 11, none⟩ = some (.int .i64 bl) := A.cell 11
  clear A
  cases ak <;> cases gn
  all_goals (go_wp2_with fail; go_ret; exact ⟨rfl, HB.out⟩)
set_option maxHeartbeats 2000000 in
theorem rundoes_any (o k a n p q s l : Int) (ak gn : Bool) (b bl : Int) (w : World) : Calls Try.prog 27 #[.agg #[.int .i64 o, .int .i64 k, .int .i64 a, .int .i64 n, .int .i64 p, .int .i64 q, .int .i64 s, .int .i64 l, .bool ak, .bool gn, .int .i64 b, .int .i64 bl]] w fun e w' => e = .returned (.bool (ak && gn)) ∧ Below w.heap.size w w' := by
  have A := Blk.new w #[.int .i64 o, .int .i64 k, .int .i64 a, .int .i64 n, .int .i64 p, .int .i64 q, .int .i64 s, .int .i64 l, .bool ak, .bool gn, .int .i64 b, .int .i64 bl] 52
  have HB := Lib.hid ((Below.refl w.heap.size w).alloc (Nat.le_refl _) (.cells #[.int .i64 o, .int .i64 k, .int .i64 a, .int .i64 n, .int .i64 p, .int .i64 q, .int .i64 s, .int .i64 l, .bool ak, .bool gn, .int .i64 b, .int .i64 bl] 52))
  go_enter Try.func27, Try.ntmps27
  go_upto_region 1 with fail
  generalize w.alloc (.cells #[.int .i64 o, .int .i64 k, .int .i64 a, .int .i64 n, .int .i64 p, .int .i64 q, .int .i64 s, .int .i64 l, .bool ak, .bool gn, .int .i64 b, .int .i64 bl] 52) = W at *
  have c0 : W.cell? ⟨w.heap.size, 0, none⟩ = some (.int .i64 o) := A.cell 0
  have c1 : W.cell? ⟨w.heap.size, 1, none⟩ = some (.int .i64 k) := A.cell 1
  have c2 : W.cell? ⟨w.heap.size, 2, none⟩ = some (.int .i64 a) := A.cell 2
  have c3 : W.cell? ⟨w.heap.size, 3, none⟩ = some (.int .i64 n) := A.cell 3
  have c4 : W.cell? ⟨w.heap.size, 4, none⟩ = some (.int .i64 p) := A.cell 4
  have c5 : W.cell? ⟨w.heap.size, 5, none⟩ = some (.int .i64 q) := A.cell 5
  have c6 : W.cell? ⟨w.heap.size, 6, none⟩ = some (.int .i64 s) := A.cell 6
  have c7 : W.cell? ⟨w.heap.size, 7, none⟩ = some (.int .i64 l) := A.cell 7
  have c8 : W.cell? ⟨w.heap.size, 8, none⟩ = some (.bool ak) := A.cell 8
  have c9 : W.cell? ⟨w.heap.size, 9, none⟩ = some (.bool gn) := A.cell 9
  have c10 : W.cell? ⟨w.heap.size, 10, none⟩ = some (.int .i64 b) := A.cell 10
  have c11 : W.cell? ⟨w.heap.size, 11, none⟩ = some (.int .i64 bl) := A.cell 11
  clear A
  cases ak <;> cases gn
  all_goals (go_wp2_with fail; go_ret; exact ⟨rfl, HB.out⟩)
set_option maxHeartbeats 2000000 in
theorem ropen_any (o k a n p q s l : Int) (ak gn : Bool) (b bl : Int) (w : World) : Calls Try.prog 25 #[.agg #[.int .i64 o, .int .i64 k, .int .i64 a, .int .i64 n, .int .i64 p, .int .i64 q, .int .i64 s, .int .i64 l, .bool ak, .bool gn, .int .i64 b, .int .i64 bl]] w fun e w' => e = .returned (.bool (!ak || gn)) ∧ Below w.heap.size w w' := by
  have A := Blk.new w #[.int .i64 o, .int .i64 k, .int .i64 a, .int .i64 n, .int .i64 p, .int .i64 q, .int .i64 s, .int .i64 l, .bool ak, .bool gn, .int .i64 b, .int .i64 bl] 52
  have HB := Lib.hid ((Below.refl w.heap.size w).alloc (Nat.le_refl _) (.cells #[.int .i64 o, .int .i64 k, .int .i64 a, .int .i64 n, .int .i64 p, .int .i64 q, .int .i64 s, .int .i64 l, .bool ak, .bool gn, .int .i64 b, .int .i64 bl] 52))
  go_enter Try.func25, Try.ntmps25
  go_upto_region 1 with fail
  generalize w.alloc (.cells #[.int .i64 o, .int .i64 k, .int .i64 a, .int .i64 n, .int .i64 p, .int .i64 q, .int .i64 s, .int .i64 l, .bool ak, .bool gn, .int .i64 b, .int .i64 bl] 52) = W at *
  have c0 : W.cell? ⟨w.heap.size, 0, none⟩ = some (.int .i64 o) := A.cell 0
  have c1 : W.cell? ⟨w.heap.size, 1, none⟩ = some (.int .i64 k) := A.cell 1
  have c2 : W.cell? ⟨w.heap.size, 2, none⟩ = some (.int .i64 a) := A.cell 2
  have c3 : W.cell? ⟨w.heap.size, 3, none⟩ = some (.int .i64 n) := A.cell 3
  have c4 : W.cell? ⟨w.heap.size, 4, none⟩ = some (.int .i64 p) := A.cell 4
  have c5 : W.cell? ⟨w.heap.size, 5, none⟩ = some (.int .i64 q) := A.cell 5
  have c6 : W.cell? ⟨w.heap.size, 6, none⟩ = some (.int .i64 s) := A.cell 6
  have c7 : W.cell? ⟨w.heap.size, 7, none⟩ = some (.int .i64 l) := A.cell 7
  have c8 : W.cell? ⟨w.heap.size, 8, none⟩ = some (.bool ak) := A.cell 8
  have c9 : W.cell? ⟨w.heap.size, 9, none⟩ = some (.bool gn) := A.cell 9
  have c10 : W.cell? ⟨w.heap.size, 10, none⟩ = some (.int .i64 b) := A.cell 10
  have c11 : W.cell? ⟨w.heap.size, 11, none⟩ = some (.int .i64 bl) := A.cell 11
  clear A
  cases ak <;> cases gn
  all_goals (go_wp2_with fail; go_ret; exact ⟨rfl, HB.out⟩)
set_option maxHeartbeats 2000000 in
theorem tries_any (o k a n p q s l : Int) (ak gn : Bool) (b bl : Int) (w : World) : Calls Try.prog 51 #[.agg #[.int .i64 o, .int .i64 k, .int .i64 a, .int .i64 n, .int .i64 p, .int .i64 q, .int .i64 s, .int .i64 l, .bool ak, .bool gn, .int .i64 b, .int .i64 bl]] w fun e w' => e = .returned (.tuple #[.int .i64 (if ak && gn then b else s), .int .i64 (if ak && gn then bl else l)]) ∧ Below w.heap.size w w' := by
  have A := Blk.new w #[.int .i64 o, .int .i64 k, .int .i64 a, .int .i64 n, .int .i64 p, .int .i64 q, .int .i64 s, .int .i64 l, .bool ak, .bool gn, .int .i64 b, .int .i64 bl] 49
  have HB := Lib.hid ((Below.refl w.heap.size w).alloc (Nat.le_refl _) (.cells #[.int .i64 o, .int .i64 k, .int .i64 a, .int .i64 n, .int .i64 p, .int .i64 q, .int .i64 s, .int .i64 l, .bool ak, .bool gn, .int .i64 b, .int .i64 bl] 49))
  rcases hu : (ak && gn) with _ | _
  · have U := Lib.hid (fun w => show Calls Try.prog 26 #[.agg #[.int .i64 o, .int .i64 k, .int .i64 a, .int .i64 n, .int .i64 p, .int .i64 q, .int .i64 s, .int .i64 l, .bool ak, .bool gn, .int .i64 b, .int .i64 bl]] w fun e w' => e = .returned (.bool false) ∧ Below w.heap.size w w' from by have := undoes_any o k a n p q s l ak gn b bl w; rwa [hu] at this)
    clear hu
    go_enter Try.func51, Try.ntmps51
    go_upto_region 1 with fail
    have hz : w.heap.size < (w.alloc (.cells #[.int .i64 o, .int .i64 k, .int .i64 a, .int .i64 n, .int .i64 p, .int .i64 q, .int .i64 s, .int .i64 l, .bool ak, .bool gn, .int .i64 b, .int .i64 bl] 49)).heap.size := by simp
    generalize w.alloc (.cells #[.int .i64 o, .int .i64 k, .int .i64 a, .int .i64 n, .int .i64 p, .int .i64 q, .int .i64 s, .int .i64 l, .bool ak, .bool gn, .int .i64 b, .int .i64 bl] 49) = W at *
    have c0 : W.cell? ⟨w.heap.size, 0, none⟩ = some (.int .i64 o) := A.cell 0
    have c1 : W.cell? ⟨w.heap.size, 1, none⟩ = some (.int .i64 k) := A.cell 1
    have c2 : W.cell? ⟨w.heap.size, 2, none⟩ = some (.int .i64 a) := A.cell 2
    have c3 : W.cell? ⟨w.heap.size, 3, none⟩ = some (.int .i64 n) := A.cell 3
    have c4 : W.cell? ⟨w.heap.size, 4, none⟩ = some (.int .i64 p) := A.cell 4
    have c5 : W.cell? ⟨w.heap.size, 5, none⟩ = some (.int .i64 q) := A.cell 5
    have c6 : W.cell? ⟨w.heap.size, 6, none⟩ = some (.int .i64 s) := A.cell 6
    have c7 : W.cell? ⟨w.heap.size, 7, none⟩ = some (.int .i64 l) := A.cell 7
    have c8 : W.cell? ⟨w.heap.size, 8, none⟩ = some (.bool ak) := A.cell 8
    have c9 : W.cell? ⟨w.heap.size, 9, none⟩ = some (.bool gn) := A.cell 9
    have c10 : W.cell? ⟨w.heap.size, 10, none⟩ = some (.int .i64 b) := A.cell 10
    have c11 : W.cell? ⟨w.heap.size, 11, none⟩ = some (.int .i64 bl) := A.cell 11
    have HA := Lib.hid A
    clear A
    go_wp2_with fail
    refine (U.out _).mono ?_
    rintro e w2 ⟨rfl, hb2⟩
    have A2 := HA.out.keep hb2 hz
    have HB2 := Lib.hid (HB.out.trans (hb2.mono HB.out.size))
    clear c0 c1 c2 c3 c4 c5 c6 c7 c8 c9 c10 c11 HA HB hb2
    have d6 := A2.cell 6
    have d7 := A2.cell 7
    have d10 := A2.cell 10
    have d11 := A2.cell 11
    clear A2
    have d6' : w2.cell? ⟨w.heap.size, 6, none⟩ = some (.int .i64 s) := d6
    have d7' : w2.cell? ⟨w.heap.size, 7, none⟩ = some (.int .i64 l) := d7
    have d10' : w2.cell? ⟨w.heap.size, 10, none⟩ = some (.int .i64 b) := d10
    have d11' : w2.cell? ⟨w.heap.size, 11, none⟩ = some (.int .i64 bl) := d11
    clear d6 d7 d10 d11
    go_upto_region 3 with fail
    go_quiet (fail)
    go_wp2_with fail
    go_ret2
    exact ⟨rfl, HB2.out.trans ((Go.Joins.below_draws _ _ _).mono HB2.out.size)⟩
  · have U := Lib.hid (fun w => show Calls Try.prog 26 #[.agg #[.int .i64 o, .int .i64 k, .int .i64 a, .int .i64 n, .int .i64 p, .int .i64 q, .int .i64 s, .int .i64 l, .bool ak, .bool gn, .int .i64 b, .int .i64 bl]] w fun e w' => e = .returned (.bool true) ∧ Below w.heap.size w w' from by have := undoes_any o k a n p q s l ak gn b bl w; rwa [hu] at this)
    clear hu
    go_enter Try.func51, Try.ntmps51
    go_upto_region 1 with fail
    have hz : w.heap.size < (w.alloc (.cells #[.int .i64 o, .int .i64 k, .int .i64 a, .int .i64 n, .int .i64 p, .int .i64 q, .int .i64 s, .int .i64 l, .bool ak, .bool gn, .int .i64 b, .int .i64 bl] 49)).heap.size := by simp
    generalize w.alloc (.cells #[.int .i64 o, .int .i64 k, .int .i64 a, .int .i64 n, .int .i64 p, .int .i64 q, .int .i64 s, .int .i64 l, .bool ak, .bool gn, .int .i64 b, .int .i64 bl] 49) = W at *
    have c0 : W.cell? ⟨w.heap.size, 0, none⟩ = some (.int .i64 o) := A.cell 0
    have c1 : W.cell? ⟨w.heap.size, 1, none⟩ = some (.int .i64 k) := A.cell 1
    have c2 : W.cell? ⟨w.heap.size, 2, none⟩ = some (.int .i64 a) := A.cell 2
    have c3 : W.cell? ⟨w.heap.size, 3, none⟩ = some (.int .i64 n) := A.cell 3
    have c4 : W.cell? ⟨w.heap.size, 4, none⟩ = some (.int .i64 p) := A.cell 4
    have c5 : W.cell? ⟨w.heap.size, 5, none⟩ = some (.int .i64 q) := A.cell 5
    have c6 : W.cell? ⟨w.heap.size, 6, none⟩ = some (.int .i64 s) := A.cell 6
    have c7 : W.cell? ⟨w.heap.size, 7, none⟩ = some (.int .i64 l) := A.cell 7
    have c8 : W.cell? ⟨w.heap.size, 8, none⟩ = some (.bool ak) := A.cell 8
    have c9 : W.cell? ⟨w.heap.size, 9, none⟩ = some (.bool gn) := A.cell 9
    have c10 : W.cell? ⟨w.heap.size, 10, none⟩ = some (.int .i64 b) := A.cell 10
    have c11 : W.cell? ⟨w.heap.size, 11, none⟩ = some (.int .i64 bl) := A.cell 11
    have HA := Lib.hid A
    clear A
    go_wp2_with fail
    refine (U.out _).mono ?_
    rintro e w2 ⟨rfl, hb2⟩
    have A2 := HA.out.keep hb2 hz
    have HB2 := Lib.hid (HB.out.trans (hb2.mono HB.out.size))
    clear c0 c1 c2 c3 c4 c5 c6 c7 c8 c9 c10 c11 HA HB hb2
    have d6 := A2.cell 6
    have d7 := A2.cell 7
    have d10 := A2.cell 10
    have d11 := A2.cell 11
    clear A2
    have d6' : w2.cell? ⟨w.heap.size, 6, none⟩ = some (.int .i64 s) := d6
    have d7' : w2.cell? ⟨w.heap.size, 7, none⟩ = some (.int .i64 l) := d7
    have d10' : w2.cell? ⟨w.heap.size, 10, none⟩ = some (.int .i64 b) := d10
    have d11' : w2.cell? ⟨w.heap.size, 11, none⟩ = some (.int .i64 bl) := d11
    clear d6 d7 d10 d11
    go_upto_region 2 with fail
    go_quiet (fail)
    go_wp2_with fail
    go_ret2
    exact ⟨rfl, HB2.out.trans ((Go.Joins.below_draws _ _ _).mono HB2.out.size)⟩
theorem ein_any (n lo hi : Int) (w : World) (v : Bool) (hv : inB n lo hi = v) : Calls Try.prog 49 #[.int .i64 n, .int .i64 lo, .int .i64 hi] w fun e w' => e = .returned (.bool v) ∧ w = w' := by
  have C := Lib.hid (fun w => in_any n lo hi w)
  go_enter Try.func49, Try.ntmps49
  go_wp2_with fail
  refine (C.out _).mono ?_
  rintro e w2 ⟨rfl, rfl⟩
  go_wp2_with fail
  go_ret
  exact ⟨by rw [← hv]; rfl, rfl⟩
end Go.Proofs.Ytalbkpahphndiaa
