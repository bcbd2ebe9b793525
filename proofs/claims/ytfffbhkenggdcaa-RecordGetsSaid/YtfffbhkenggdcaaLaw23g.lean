/- The statement of octets that are a record's, or none's. -/
import Derived.Test.YtfffbhkenggdcaaRec20
import Derived.Test.YtfffbhkenggdcaaRec19k
import Derived.Test.YtfffbhkenggdcaaLaw09
import Derived.Test.YtfffbhkenggdcaaRow
import Derived.Test.YtfffbhkenggdcaaOps
import Derived.Test.YtfffbhkenggdcaaEq
import Derived.Test.YtfffbhkenggdcaaChgOps
import Derived.RegionTactic
import Derived.BigRegion
import Derived.ChangeAlike
namespace Go.Proofs.Ytfffbhkenggdcaa
set_option linter.unusedVariables false
set_option linter.unusedSimpArgs false
open Go.ChangeShapes Go.WideShapes Go.ChangeAt Go.RowKit
theorem rr_eq {x y : List Value} (hx : OkAll (List.replicate 15 (some IntKind.i64) ++ ([none, some IntKind.i64] : List (Option IntKind))) x) (hy : OkAll (List.replicate 15 (some IntKind.i64) ++ ([none, some IntKind.i64] : List (Option IntKind))) y) (w : World) : (binOp .eql 35 (.agg x.toArray) (.agg y.toArray)).run Try.prog w = .ok (.bool (sameB x y)) w :=
  eql_flat 4 5 35 _ _ _ w (show flat Try.prog 4 35 = some (List.replicate 15 (some IntKind.i64) ++ ([none, some IntKind.i64] : List (Option IntKind))) by kernel_rfl) (by kernel_rfl) (by kernel_rfl) (by kernel_rfl) (by decide) hx hy
theorem rowRC : RowT 31 17 := ⟨⟨_, Try.underlying31, rfl⟩, rc_size⟩
set_option maxRecDepth 100000 in
set_option maxHeartbeats 4000000 in
theorem model_any (kd r s t k a b n p q i1 i2 k1 k2 ko : Int) (ku : Bool) (now : Int) (w : World) : Calls Try.prog 9 #[.agg (rec17 kd r s t k a b n p q i1 i2 k1 k2 ko ku now).toArray] w fun e w' => e = .returned (.agg (rec17 kd r s t k a b n p q i1 i2 k1 k2 ko ku now).toArray) ∧ Below w.heap.size w w' := by
  show Calls Try.prog 9 #[.agg #[.int .i64 kd, .int .i64 r, .int .i64 s, .int .i64 t, .int .i64 k, .int .i64 a, .int .i64 b, .int .i64 n, .int .i64 p, .int .i64 q, .int .i64 i1, .int .i64 i2, .int .i64 k1, .int .i64 k2, .int .i64 ko, .bool ku, .int .i64 now]] w _
  have A1 := Blk.new w #[.int .i64 kd, .int .i64 r, .int .i64 s, .int .i64 t, .int .i64 k, .int .i64 a, .int .i64 b, .int .i64 n, .int .i64 p, .int .i64 q, .int .i64 i1, .int .i64 i2, .int .i64 k1, .int .i64 k2, .int .i64 ko, .bool ku, .int .i64 now] 31
  have hz1 : (w.alloc (.cells #[.int .i64 kd, .int .i64 r, .int .i64 s, .int .i64 t, .int .i64 k, .int .i64 a, .int .i64 b, .int .i64 n, .int .i64 p, .int .i64 q, .int .i64 i1, .int .i64 i2, .int .i64 k1, .int .i64 k2, .int .i64 ko, .bool ku, .int .i64 now] 31)).heap.size = w.heap.size + 1 := by simp
  have AC : Blk ((w.alloc (.cells #[.int .i64 kd, .int .i64 r, .int .i64 s, .int .i64 t, .int .i64 k, .int .i64 a, .int .i64 b, .int .i64 n, .int .i64 p, .int .i64 q, .int .i64 i1, .int .i64 i2, .int .i64 k1, .int .i64 k2, .int .i64 ko, .bool ku, .int .i64 now] 31)).alloc (.cells #[.int .i64 0, .int .i64 0, .int .i64 0, .int .i64 0, .int .i64 0, .int .i64 0, .int .i64 0, .int .i64 0, .int .i64 0, .int .i64 0, .int .i64 0, .int .i64 0, .int .i64 0, .int .i64 0, .int .i64 0, .bool false, .int .i64 0] 35)) (w.heap.size + 1) [.int .i64 0, .int .i64 0, .int .i64 0, .int .i64 0, .int .i64 0, .int .i64 0, .int .i64 0, .int .i64 0, .int .i64 0, .int .i64 0, .int .i64 0, .int .i64 0, .int .i64 0, .int .i64 0, .int .i64 0, .bool false, .int .i64 0] 35 := hz1 ▸ Blk.new (w.alloc (.cells #[.int .i64 kd, .int .i64 r, .int .i64 s, .int .i64 t, .int .i64 k, .int .i64 a, .int .i64 b, .int .i64 n, .int .i64 p, .int .i64 q, .int .i64 i1, .int .i64 i2, .int .i64 k1, .int .i64 k2, .int .i64 ko, .bool ku, .int .i64 now] 31)) #[.int .i64 0, .int .i64 0, .int .i64 0, .int .i64 0, .int .i64 0, .int .i64 0, .int .i64 0, .int .i64 0, .int .i64 0, .int .i64 0, .int .i64 0, .int .i64 0, .int .i64 0, .int .i64 0, .int .i64 0, .bool false, .int .i64 0] 35
  have A : Blk ((w.alloc (.cells #[.int .i64 kd, .int .i64 r, .int .i64 s, .int .i64 t, .int .i64 k, .int .i64 a, .int .i64 b, .int .i64 n, .int .i64 p, .int .i64 q, .int .i64 i1, .int .i64 i2, .int .i64 k1, .int .i64 k2, .int .i64 ko, .bool ku, .int .i64 now] 31)).alloc (.cells #[.int .i64 0, .int .i64 0, .int .i64 0, .int .i64 0, .int .i64 0, .int .i64 0, .int .i64 0, .int .i64 0, .int .i64 0, .int .i64 0, .int .i64 0, .int .i64 0, .int .i64 0, .int .i64 0, .int .i64 0, .bool false, .int .i64 0] 35)) w.heap.size [.int .i64 kd, .int .i64 r, .int .i64 s, .int .i64 t, .int .i64 k, .int .i64 a, .int .i64 b, .int .i64 n, .int .i64 p, .int .i64 q, .int .i64 i1, .int .i64 i2, .int .i64 k1, .int .i64 k2, .int .i64 ko, .bool ku, .int .i64 now] 31 := (A1.alloc _)
  have HC := Lib.hid AC
  have HB := Lib.hid ((((Below.refl w.heap.size w).alloc (Nat.le_refl _) (.cells #[.int .i64 kd, .int .i64 r, .int .i64 s, .int .i64 t, .int .i64 k, .int .i64 a, .int .i64 b, .int .i64 n, .int .i64 p, .int .i64 q, .int .i64 i1, .int .i64 i2, .int .i64 k1, .int .i64 k2, .int .i64 ko, .bool ku, .int .i64 now] 31)).alloc (by rw [hz1]; omega) (.cells #[.int .i64 0, .int .i64 0, .int .i64 0, .int .i64 0, .int .i64 0, .int .i64 0, .int .i64 0, .int .i64 0, .int .i64 0, .int .i64 0, .int .i64 0, .int .i64 0, .int .i64 0, .int .i64 0, .int .i64 0, .bool false, .int .i64 0] 35)))
  have OX := (rec17_ok kd r s t k a b n p q i1 i2 k1 k2 ko ku now).out.2
  have TR : RowT 35 (rec17 kd r s t k a b n p q i1 i2 k1 k2 ko ku now).length := rowR
  have T9 : RowT 27 ([.int .i64 r, .int .i64 s, .int .i64 t, .int .i64 k, .int .i64 a, .int .i64 b, .int .i64 n, .int .i64 p, .int .i64 q] : List Value).length := rowC
  have T2 : RowT 25 ([.int .i64 i1, .int .i64 i2] : List Value).length := rowI
  have T4 : RowT 29 ([.int .i64 k1, .int .i64 k2, .int .i64 ko, .bool ku] : List Value).length := rowK
  clear A1 AC hz1
  go_enter Try.func9, Try.ntmps9
  go_upto_region 1 with fail
  generalize ((w.alloc (.cells #[.int .i64 kd, .int .i64 r, .int .i64 s, .int .i64 t, .int .i64 k, .int .i64 a, .int .i64 b, .int .i64 n, .int .i64 p, .int .i64 q, .int .i64 i1, .int .i64 i2, .int .i64 k1, .int .i64 k2, .int .i64 ko, .bool ku, .int .i64 now] 31)).alloc (.cells #[.int .i64 0, .int .i64 0, .int .i64 0, .int .i64 0, .int .i64 0, .int .i64 0, .int .i64 0, .int .i64 0, .int .i64 0, .int .i64 0, .int .i64 0, .int .i64 0, .int .i64 0, .int .i64 0, .int .i64 0, .bool false, .int .i64 0] 35)) = W at *
  have c0 : W.cell? ⟨w.heap.size, 0, none⟩ = some (.int .i64 kd) := A.cell 0
  have c16 : W.cell? ⟨w.heap.size, 16, none⟩ = some (.int .i64 now) := A.cell 16
  have r9 : W.rangeAt w.heap.size 1 [.int .i64 r, .int .i64 s, .int .i64 t, .int .i64 k, .int .i64 a, .int .i64 b, .int .i64 n, .int .i64 p, .int .i64 q] := A.range 1 _ rfl
  have r2 : W.rangeAt w.heap.size 10 [.int .i64 i1, .int .i64 i2] := A.range 10 _ rfl
  have r4 : W.rangeAt w.heap.size 12 [.int .i64 k1, .int .i64 k2, .int .i64 ko, .bool ku] := A.range 12 _ rfl
  have C5 := Lib.hid (HC.out.setAll (rec17 kd r s t k a b n p q i1 i2 k1 k2 ko ku now) rfl)
  have HBZ := Lib.hid (below_sets (Nat.le_succ _) (rec17 kd r s t k a b n p q i1 i2 k1 k2 ko ku now) 0 _ HB.out)
  clear A
  go_wp2_with (first
    | ((with_reducible refine ld_row r9 T9 ?_ ?_ ?_); (· rfl); (· rfl); (simp only [Act.put, List.setIfInBounds_toArray, List.set_cons_zero, List.set_cons_succ]))
    | ((with_reducible refine ld_row r2 T2 ?_ ?_ ?_); (· rfl); (· rfl); (simp only [Act.put, List.setIfInBounds_toArray, List.set_cons_zero, List.set_cons_succ]))
    | ((with_reducible refine ld_row r4 T4 ?_ ?_ ?_); (· rfl); (· rfl); (simp only [Act.put, List.setIfInBounds_toArray, List.set_cons_zero, List.set_cons_succ]))
    | ((with_reducible refine st_row (cs := rec17 kd r s t k a b n p q i1 i2 k1 k2 ko ku now) HC.out rfl TR OX ?_ ?_ ?_); (· rfl); (· rfl); (simp only [Act.put, List.setIfInBounds_toArray, List.set_cons_zero, List.set_cons_succ]); (generalize W.setCells (w.heap.size + 1) 0 (rec17 kd r s t k a b n p q i1 i2 k1 k2 ko ku now) = WW at *)))
  refine ret_cell (p := 2) rfl rfl C5.out Try.underlying35 rfl (by rw [rr_size]; rfl) rfl ⟨rfl, HBZ.out⟩
set_option maxRecDepth 100000 in
set_option maxHeartbeats 8000000 in
theorem gets_bad (a : Option Addr) (n c : Nat) (w : World) {X Y : List Value} (LX : Hid (X.length = 17)) (LY : Hid (Y.length = 17)) (HX : Hid (X = (rec17 0 0 0 0 0 0 0 0 0 0 0 0 0 0 0 false 0))) (OX : Hid (∀ u ∈ X, u.oneCell' = true)) (OY : Hid (∀ u ∈ Y, u.oneCell' = true))
    (G : Hid (∀ w', Below w.heap.size w w' → Calls Try.prog 6 #[.slice a n c] w' fun e w'' => e = .returned (.tuple #[.agg X.toArray, .int .i64 16]) ∧ Below w'.heap.size w' w''))
    (R : Hid (∀ w', Below w.heap.size w w' → Calls Try.prog 7 #[.slice a n c] w' fun e w'' => e = .returned (.tuple #[.agg Y.toArray, .bool false]) ∧ Below w'.heap.size w' w'')) :
    Calls Try.prog 3 #[.slice a n c] w fun e w' => e = .returned (.bool true) ∧ Below w.heap.size w w' := by
  have TX : RowT 31 X.length := by rw [LX.out]; exact rowRC
  have TY : RowT 35 Y.length := by rw [LY.out]; exact rowR
  have EQ : Hid (∀ w, (binOp .eql 31 (.agg X.toArray) (.agg #[.int .i64 0, .int .i64 0, .int .i64 0, .int .i64 0, .int .i64 0, .int .i64 0, .int .i64 0, .int .i64 0, .int .i64 0, .int .i64 0, .int .i64 0, .int .i64 0, .int .i64 0, .int .i64 0, .int .i64 0, .bool false, .int .i64 0])).run Try.prog w = .ok (.bool true) w) := Lib.hid fun w => by
    have hz : OkAll (List.replicate 15 (some IntKind.i64) ++ ([none, some IntKind.i64] : List (Option IntKind))) (rec17 0 0 0 0 0 0 0 0 0 0 0 0 0 0 0 false 0) := ok17 (by intro z hz; simp only [List.mem_cons, List.not_mem_nil, or_false] at hz; rcases hz with rfl | rfl | rfl | rfl | rfl | rfl | rfl | rfl | rfl | rfl | rfl | rfl | rfl | rfl | rfl | rfl <;> decide)
    rw [HX.out]
    exact (rc_eq hz hz w).trans (by rw [sameB_refl])
  have EG : Try.prog.eqGuardType Try.prog.depth 31 = false := by kernel_rfl
  go_enter Try.func3, Try.ntmps3
  go_wp2_with fail
  refine (alive23 _).mono ?_
  rintro e w2 ⟨rfl, hb2⟩
  have HB2 := Lib.hid hb2
  clear hb2
  go_wp2_with fail
  refine (G.out _ HB2.out).mono ?_
  rintro e w3 ⟨rfl, hb3⟩
  have HB3 := Lib.hid (HB2.out.trans (hb3.mono HB2.out.size))
  have A3 : Hid (Blk (w3.alloc (.cells X.toArray 31)) w3.heap.size X 31) := Lib.hid (Blk.new w3 X.toArray 31)
  have HB3' := Lib.hid (HB3.out.alloc HB3.out.size (.cells X.toArray 31))
  clear hb3 HB2 HB3
  go_upto_region 4 with (first
    | ((with_reducible refine st_row_new (cs := X) TX OX.out ?_ ?_ ?_ ?_); (· first | rfl | simp); (· rfl); (· exact LX.out.symm); (simp only [Act.put, List.setIfInBounds_toArray, List.set_cons_zero, List.set_cons_succ])))
  generalize hg3 : w3.heap.size = g3 at *
  generalize w3.alloc (.cells X.toArray 31) = w4 at *
  clear hg3
  go_wp2_with fail
  refine (R.out _ HB3'.out).mono ?_
  rintro e w5 ⟨rfl, hb5⟩
  have HB5 := Lib.hid (HB3'.out.trans (hb5.mono HB3'.out.size))
  have A5 := Lib.hid ((A3.out.keep hb5 A3.out.lt).alloc (.cells Y.toArray 35))
  have D5 : Hid (Blk (w5.alloc (.cells Y.toArray 35)) w5.heap.size Y 35) := Lib.hid (Blk.new w5 Y.toArray 35)
  have HB5' := Lib.hid (HB5.out.alloc HB5.out.size (.cells Y.toArray 35))
  have r5 : (w5.alloc (.cells Y.toArray 35)).rangeAt g3 0 X := A5.out.range 0 _ (by simp)
  clear hb5 A3 HB3' HB5
  go_upto_region 5 with (first
    | ((with_reducible refine st_row_new (cs := Y) TY OY.out ?_ ?_ ?_ ?_); (· first | rfl | simp); (· rfl); (· exact LY.out.symm); (simp only [Act.put, List.setIfInBounds_toArray, List.set_cons_zero, List.set_cons_succ])))
  generalize hg5 : w5.heap.size = g5 at *
  generalize w5.alloc (.cells Y.toArray 35) = w6 at *
  clear hg5
  go_upto_region 6 with fail
  go_wp2_with (first
    | ((with_reducible refine ld_row r5 TX ?_ ?_ ?_); (· rfl); (· rfl); (simp only [Act.put, List.setIfInBounds_toArray, List.set_cons_zero, List.set_cons_succ]))
    | ((with_reducible refine cmp_row (v := .bool true) EG EQ.out ?_ ?_ ?_ ?_); (· rfl); (· rfl); (· rfl); (simp only [Act.put, List.setIfInBounds_toArray, List.set_cons_zero, List.set_cons_succ])))
  go_ret
  exact ⟨rfl, HB5'.out⟩
set_option maxRecDepth 100000 in
set_option maxHeartbeats 8000000 in
theorem gets_good (a : Option Addr) (n c : Nat) (bs : List UInt8) (w : World) {X Y : List Value} (LX : Hid (X.length = 17)) (LY : Hid (Y.length = 17)) (HY : Hid (Y = X)) (KX : Hid (OkAll (List.replicate 15 (some IntKind.i64) ++ ([none, some IntKind.i64] : List (Option IntKind))) X)) (OX : Hid (∀ u ∈ X, u.oneCell' = true)) (OY : Hid (∀ u ∈ Y, u.oneCell' = true)) (HS : Hid (Sl w a n 1 (bcells bs)))
    (G : Hid (∀ w', Below w.heap.size w w' → Calls Try.prog 6 #[.slice a n c] w' fun e w'' => e = .returned (.tuple #[.agg X.toArray, .int .i64 0]) ∧ Below w'.heap.size w' w''))
    (R : Hid (∀ w', Below w.heap.size w w' → Calls Try.prog 7 #[.slice a n c] w' fun e w'' => e = .returned (.tuple #[.agg Y.toArray, .bool true]) ∧ Below w'.heap.size w' w''))
    (P : Hid (∀ w, Calls Try.prog 8 #[.agg X.toArray] w fun e w' => ∃ a' m' c', e = .returned (.tuple #[.slice a' m' c', .int .i64 0]) ∧ Sl w' a' m' 1 (bcells bs) ∧ Below w.heap.size w w'))
    (M : Hid (∀ w, Calls Try.prog 9 #[.agg X.toArray] w fun e w' => e = .returned (.agg X.toArray) ∧ Below w.heap.size w w')) :
    Calls Try.prog 3 #[.slice a n c] w fun e w' => e = .returned (.bool true) ∧ Below w.heap.size w w' := by
  have TX : RowT 31 X.length := by rw [LX.out]; exact rowRC
  have TY : RowT 35 Y.length := by rw [LY.out]; exact rowR
  have EQ : Hid (∀ w, (binOp .eql 35 (.agg X.toArray) (.agg Y.toArray)).run Try.prog w = .ok (.bool true) w) := Lib.hid fun w => by
    rw [HY.out]
    exact (rr_eq KX.out KX.out w).trans (by rw [sameB_refl])
  go_enter Try.func3, Try.ntmps3
  go_wp2_with fail
  refine (alive23 _).mono ?_
  rintro e w2 ⟨rfl, hb2⟩
  have HB2 := Lib.hid hb2
  clear hb2
  go_wp2_with fail
  refine (G.out _ HB2.out).mono ?_
  rintro e w3 ⟨rfl, hb3⟩
  have HB3 := Lib.hid (HB2.out.trans (hb3.mono HB2.out.size))
  have A3 : Hid (Blk (w3.alloc (.cells X.toArray 31)) w3.heap.size X 31) := Lib.hid (Blk.new w3 X.toArray 31)
  have HB3' := Lib.hid (HB3.out.alloc HB3.out.size (.cells X.toArray 31))
  clear hb3 HB2 HB3
  go_upto_region 4 with (first
    | ((with_reducible refine st_row_new (cs := X) TX OX.out ?_ ?_ ?_ ?_); (· first | rfl | simp); (· rfl); (· exact LX.out.symm); (simp only [Act.put, List.setIfInBounds_toArray, List.set_cons_zero, List.set_cons_succ])))
  generalize hg3 : w3.heap.size = g3 at *
  generalize w3.alloc (.cells X.toArray 31) = w4 at *
  clear hg3
  go_wp2_with fail
  refine (R.out _ HB3'.out).mono ?_
  rintro e w5 ⟨rfl, hb5⟩
  have HB5 := Lib.hid (HB3'.out.trans (hb5.mono HB3'.out.size))
  have A5 := Lib.hid ((A3.out.keep hb5 A3.out.lt).alloc (.cells Y.toArray 35))
  have D5 : Hid (Blk (w5.alloc (.cells Y.toArray 35)) w5.heap.size Y 35) := Lib.hid (Blk.new w5 Y.toArray 35)
  have HB5' := Lib.hid (HB5.out.alloc HB5.out.size (.cells Y.toArray 35))
  have r5 : (w5.alloc (.cells Y.toArray 35)).rangeAt g3 0 X := A5.out.range 0 _ (by simp)
  clear hb5 A3 HB3' HB5
  go_upto_region 5 with (first
    | ((with_reducible refine st_row_new (cs := Y) TY OY.out ?_ ?_ ?_ ?_); (· first | rfl | simp); (· rfl); (· exact LY.out.symm); (simp only [Act.put, List.setIfInBounds_toArray, List.set_cons_zero, List.set_cons_succ])))
  generalize hg5 : w5.heap.size = g5 at *
  generalize w5.alloc (.cells Y.toArray 35) = w6 at *
  clear hg5
  go_wp2_with (first
    | ((with_reducible refine ld_row r5 TX ?_ ?_ ?_); (· rfl); (· rfl); (simp only [Act.put, List.setIfInBounds_toArray, List.set_cons_zero, List.set_cons_succ])))
  refine (P.out _).mono ?_
  rintro e w7 ⟨a7, m7, c7, rfl, hs7, hb7⟩
  have HB7 := Lib.hid (HB5'.out.trans (hb7.mono HB5'.out.size))
  have A7 := Lib.hid (A5.out.keep hb7 A5.out.lt)
  have D7 := Lib.hid (D5.out.keep hb7 D5.out.lt)
  have HS7 := Lib.hid hs7
  have HSB := Lib.hid (HS.out.keep HB7.out)
  have l1 := A7.out.lt
  have l2 := D7.out.lt
  have I1 : Hid ((Try.prog.info? 31).map (·.size) = some X.length) := Lib.hid TX.2
  have I2 : Hid ((Try.prog.info? 35).map (·.size) = some Y.length) := Lib.hid TY.2
  have hsl7 := sl_one hs7
  have KV1 := Lib.hid (fun w' (hb : Below w7.heap.size w7 w') => conv_bytes (HS7.out.keep hb) c7)
  have KV2 := Lib.hid (fun w' (hb : Below w7.heap.size w7 w') => conv_bytes (HSB.out.keep hb) c)
  clear hb7 hs7 A5 D5 HB5' r5 hsl7
  go_upto_region 8 with fail
  refine q_begin (by kernel_rfl) (by kernel_rfl) ?_
  repeat (first
    | go_big_quiet_skip
    | ((with_reducible apply q_row); (· rfl); (· rfl); (· exact Try.underlying31); (· rfl); (· exact A7.out); (· exact l1); (· exact I1.out); (simp only [Act.put, List.setIfInBounds_toArray, List.set_cons_zero, List.set_cons_succ]))
    | ((with_reducible apply q_row); (· rfl); (· rfl); (· exact Try.underlying35); (· rfl); (· exact D7.out); (· exact l2); (· exact I2.out); (simp only [Act.put, List.setIfInBounds_toArray, List.set_cons_zero, List.set_cons_succ]))
    | ((with_reducible apply q_call 9 (.agg X.toArray)); (· rfl); (· exact Nat.le_refl _); (· intro w _; exact M.out w); (· intro w; go_simp); (simp only [Act.put, List.setIfInBounds_toArray, List.set_cons_zero, List.set_cons_succ]))
    | ((with_reducible apply q_cmp (v := .bool true)); (· rfl); (· rfl); (· rfl); (· kernel_rfl); (· intro w; with_reducible exact EQ.out w); (simp only [Act.put, List.setIfInBounds_toArray, List.set_cons_zero, List.set_cons_succ]))
    | ((with_reducible apply q_conv); (· rfl); (· rfl); (· first | exact KV1.out | exact KV2.out); (simp only [Act.put, List.setIfInBounds_toArray, List.set_cons_zero, List.set_cons_succ]))
    | (go_big_quiet_want; go_big_quiet_op; (first | go_big_quiet_on | (apply Exists.intro; refine ⟨fun _ _ => rfl, ?_⟩; go_big_quiet_on))))
  refine q_end ?_
  intro w9 hb9
  have HB9 := HB7.out.trans (hb9.mono HB7.out.size)
  go_wp2_with fail
  go_ret
  exact ⟨rfl, HB9⟩
theorem kd_of {bs : List UInt8} (h : 0 < bs.length) : tkN (bs, true) 1 = (bs.getD 0 0).toNat := by
  match bs, h with
  | b :: r, _ =>
    have := (tk_ok (s := (b :: r, true)) (k := 1) rfl (by simp)).1
    rw [this]
    simp [numOf]
theorem getX_no (X : List Value) : getX false X = (rec17 0 0 0 0 0 0 0 0 0 0 0 0 0 0 0 false 0) := rfl
theorem gets_none (a : Option Addr) (n c : Nat) (bs : List UInt8) (w : World) (hs : Sl w a n 1 (bcells bs)) {ok : Bool} {X : List Value} (hok : ok = false)
    (G : ∀ w', Below w.heap.size w w' → Calls Try.prog 6 #[.slice a n c] w' fun e w'' => e = .returned (.tuple #[.agg (getX ok X).toArray, .int .i64 (getC ok)]) ∧ Below w'.heap.size w' w'')
    {Y : List Value} (hY : Hid (Y.length = 17 ∧ ∀ u ∈ Y, u.oneCell' = true)) (R : ∀ w', Below w.heap.size w w' → Calls Try.prog 7 #[.slice a n c] w' fun e w'' => e = .returned (.tuple #[.agg Y.toArray, .bool false]) ∧ Below w'.heap.size w' w'') :
    Calls Try.prog 3 #[.slice a n c] w fun e w' => e = .returned (.bool true) ∧ Below w.heap.size w w' := by
  subst hok
  have HZ := rec17_ok 0 0 0 0 0 0 0 0 0 0 0 0 0 0 0 false 0
  exact gets_bad a n c w (X := (rec17 0 0 0 0 0 0 0 0 0 0 0 0 0 0 0 false 0)) (Y := Y) (Lib.hid HZ.out.1) (Lib.hid hY.out.1) (Lib.hid rfl) (Lib.hid HZ.out.2) (Lib.hid hY.out.2) (Lib.hid G) (Lib.hid R)
set_option maxHeartbeats 2000000 in
theorem gets_law (v0 : Value) (w : World) (h0 : Arg Try.prog w 22 v0) : Calls Try.prog 3 #[v0] w fun e w' => e = .returned (.bool true) ∧ Below w.heap.size w w' := by
  obtain ⟨a, n, c, bs, rfl, hnc, hc, hn1, hl, hs⟩ := h0.bytes
  have hn : n ≤ 140737488355328 := Nat.le_trans hn1 (by decide)
  have HZ := rec17_ok 0 0 0 0 0 0 0 0 0 0 0 0 0 0 0 false 0
  by_cases hn0 : n = 0
  · subst hn0
    have hb0 : bs = [] := List.eq_nil_of_length_eq_zero hl
    have hk : tkN (bs, true) 1 = 0 := by rw [hb0]; decide
    exact gets_none a 0 c bs w hs (ok := false) rfl (fun w' hb => recgetZ a 0 c bs w' (hs.keep hb) hn (Or.inr hk)) HZ (fun w' hb => rrgetN a c w')
  have hpos : 0 < n := by omega
  have hkd := kd_of (bs := bs) (by omega)
  by_cases k1 : (bs.getD 0 0).toNat = 1
  · rw [k1] at hkd
    have HX := rec17_ok 1 ((chgV (bs.drop 1)).getD 0 0) ((chgV (bs.drop 1)).getD 1 0) ((chgV (bs.drop 1)).getD 2 0) ((chgV (bs.drop 1)).getD 3 0) ((chgV (bs.drop 1)).getD 4 0) ((chgV (bs.drop 1)).getD 5 0) ((chgV (bs.drop 1)).getD 6 0) ((chgV (bs.drop 1)).getD 7 0) ((chgV (bs.drop 1)).getD 8 0) 0 0 0 0 0 false 0
    have G := fun w' (hb : Below w.heap.size w w') => recgetC a n c bs w' (hs.keep hb) hn hkd
    by_cases h23 : n = 23
    · subst h23
      rcases ho : okC bs with _ | _
      · rw [ho] at G
        exact gets_none a 23 c bs w hs rfl G HX (fun w' hb => by have := rrgetC a c bs w' (hs.keep hb) hnc hc k1; rw [ho] at this; exact this)
      · rw [ho] at G
        exact gets_good a 23 c bs w (X := recC (chgV (bs.drop 1))) (Y := recC (chgV (bs.drop 1))) (Lib.hid HX.out.1) (Lib.hid HX.out.1) (Lib.hid rfl) (Lib.hid (ok17 (by intro z hz; simp only [List.mem_cons, List.not_mem_nil, or_false] at hz; rcases hz with rfl | rfl | rfl | rfl | rfl | rfl | rfl | rfl | rfl | rfl | rfl | rfl | rfl | rfl | rfl | rfl <;> first | exact fits_zero | exact fld_fit _ _ _ | exact chgV_fit _ _ | decide))) (Lib.hid HX.out.2) (Lib.hid HX.out.2) (Lib.hid hs) (Lib.hid G) (Lib.hid fun w' hb => by have := rrgetC a c bs w' (hs.keep hb) hnc hc k1; rw [ho] at this; exact this) (Lib.hid fun w => putC hkd ho w) (Lib.hid fun w => model_any 1 ((chgV (bs.drop 1)).getD 0 0) ((chgV (bs.drop 1)).getD 1 0) ((chgV (bs.drop 1)).getD 2 0) ((chgV (bs.drop 1)).getD 3 0) ((chgV (bs.drop 1)).getD 4 0) ((chgV (bs.drop 1)).getD 5 0) ((chgV (bs.drop 1)).getD 6 0) ((chgV (bs.drop 1)).getD 7 0) ((chgV (bs.drop 1)).getD 8 0) 0 0 0 0 0 false 0 w)
    · have ho : okC bs = false := okChg_no (by rintro ⟨h, _⟩; rw [List.length_drop] at h; omega)
      exact gets_none a n c bs w hs ho G HZ (fun w' hb => rrget1 a n c bs w' (hs.keep hb) hpos k1 h23)
  by_cases k2 : (bs.getD 0 0).toNat = 2
  · rw [k2] at hkd
    have HX := rec17_ok 2 0 0 0 0 0 0 0 0 0 (fld bs 1 1) (fld bs 2 2) 0 0 0 false 0
    have G := fun w' (hb : Below w.heap.size w w') => recgetM a n c bs w' (hs.keep hb) hn hkd
    by_cases hlen : n = 4
    · subst hlen
      rcases ho : okM bs with _ | _
      · rw [ho] at G
        exact gets_none a 4 c bs w hs rfl G HZ (fun w' hb => by have := rrgetM a c bs w' (hs.keep hb) hnc hc k2; rw [ho] at this; exact this)
      · rw [ho] at G
        exact gets_good a 4 c bs w (X := rec17 2 0 0 0 0 0 0 0 0 0 (fld bs 1 1) (fld bs 2 2) 0 0 0 false 0) (Y := rec17 2 0 0 0 0 0 0 0 0 0 (fld bs 1 1) (fld bs 2 2) 0 0 0 false 0) (Lib.hid HX.out.1) (Lib.hid HX.out.1) (Lib.hid rfl) (Lib.hid (ok17 (by intro z hz; simp only [List.mem_cons, List.not_mem_nil, or_false] at hz; rcases hz with rfl | rfl | rfl | rfl | rfl | rfl | rfl | rfl | rfl | rfl | rfl | rfl | rfl | rfl | rfl | rfl <;> first | exact fits_zero | exact fld_fit _ _ _ | exact chgV_fit _ _ | decide))) (Lib.hid HX.out.2) (Lib.hid HX.out.2) (Lib.hid hs) (Lib.hid G) (Lib.hid fun w' hb => by have := rrgetM a c bs w' (hs.keep hb) hnc hc k2; rw [ho] at this; exact this) (Lib.hid fun w => againM bs hkd ho w) (Lib.hid fun w => model_any 2 0 0 0 0 0 0 0 0 0 (fld bs 1 1) (fld bs 2 2) 0 0 0 false 0 w)
    · have ho : okM bs = false := by
        unfold okM
        rw [decide_eq_false (by omega), Bool.false_and]
      exact gets_none a n c bs w hs ho G HZ (fun w' hb => rrget2 a n c bs w' (hs.keep hb) hpos k2 hlen)
  by_cases k3 : (bs.getD 0 0).toNat = 3
  · rw [k3] at hkd
    have HX := rec17_ok 3 0 0 0 0 0 0 0 0 0 0 0 (fld bs 1 1) (fld bs 2 2) (fld bs 4 1) (decide ((numOf ((bs.drop 5).take 1) : Int) = 1)) (fld bs 6 4)
    have G := fun w' (hb : Below w.heap.size w w') => recgetT a n c bs w' (hs.keep hb) hn hkd
    by_cases hlen : n = 10
    · subst hlen
      rcases ho : okT bs with _ | _
      · rw [ho] at G
        exact gets_none a 10 c bs w hs rfl G HZ (fun w' hb => by have := rrgetT a c bs w' (hs.keep hb) hnc hc k3; rw [ho] at this; exact this)
      · rw [ho] at G
        exact gets_good a 10 c bs w (X := rec17 3 0 0 0 0 0 0 0 0 0 0 0 (fld bs 1 1) (fld bs 2 2) (fld bs 4 1) (decide ((numOf ((bs.drop 5).take 1) : Int) = 1)) (fld bs 6 4)) (Y := rec17 3 0 0 0 0 0 0 0 0 0 0 0 (fld bs 1 1) (fld bs 2 2) (fld bs 4 1) (decide ((numOf ((bs.drop 5).take 1) : Int) = 1)) (fld bs 6 4)) (Lib.hid HX.out.1) (Lib.hid HX.out.1) (Lib.hid rfl) (Lib.hid (ok17 (by intro z hz; simp only [List.mem_cons, List.not_mem_nil, or_false] at hz; rcases hz with rfl | rfl | rfl | rfl | rfl | rfl | rfl | rfl | rfl | rfl | rfl | rfl | rfl | rfl | rfl | rfl <;> first | exact fits_zero | exact fld_fit _ _ _ | exact chgV_fit _ _ | decide))) (Lib.hid HX.out.2) (Lib.hid HX.out.2) (Lib.hid hs) (Lib.hid G) (Lib.hid fun w' hb => by have := rrgetT a c bs w' (hs.keep hb) hnc hc k3; rw [ho] at this; exact this) (Lib.hid fun w => againT bs hkd ho w) (Lib.hid fun w => model_any 3 0 0 0 0 0 0 0 0 0 0 0 (fld bs 1 1) (fld bs 2 2) (fld bs 4 1) (decide ((numOf ((bs.drop 5).take 1) : Int) = 1)) (fld bs 6 4) w)
    · have ho : okT bs = false := by
        unfold okT
        rw [decide_eq_false (by rintro ⟨h, _⟩; omega), Bool.false_and]
      exact gets_none a n c bs w hs ho G HZ (fun w' hb => rrget3 a n c bs w' (hs.keep hb) hpos k3 hlen)
  by_cases k4 : (bs.getD 0 0).toNat = 4
  · rw [k4] at hkd
    have HX := rec17_ok 4 0 0 0 0 0 0 0 0 0 0 0 (fld bs 1 1) (fld bs 2 2) (fld bs 4 1) (decide ((numOf ((bs.drop 5).take 1) : Int) = 1)) 0
    have G := fun w' (hb : Below w.heap.size w w') => recgetA a n c bs w' (hs.keep hb) hn hkd
    by_cases hlen : n = 6
    · subst hlen
      rcases ho : okA bs with _ | _
      · rw [ho] at G
        exact gets_none a 6 c bs w hs rfl G HZ (fun w' hb => by have := rrgetA a c bs w' (hs.keep hb) hnc hc k4; rw [ho] at this; exact this)
      · rw [ho] at G
        exact gets_good a 6 c bs w (X := rec17 4 0 0 0 0 0 0 0 0 0 0 0 (fld bs 1 1) (fld bs 2 2) (fld bs 4 1) (decide ((numOf ((bs.drop 5).take 1) : Int) = 1)) 0) (Y := rec17 4 0 0 0 0 0 0 0 0 0 0 0 (fld bs 1 1) (fld bs 2 2) (fld bs 4 1) (decide ((numOf ((bs.drop 5).take 1) : Int) = 1)) 0) (Lib.hid HX.out.1) (Lib.hid HX.out.1) (Lib.hid rfl) (Lib.hid (ok17 (by intro z hz; simp only [List.mem_cons, List.not_mem_nil, or_false] at hz; rcases hz with rfl | rfl | rfl | rfl | rfl | rfl | rfl | rfl | rfl | rfl | rfl | rfl | rfl | rfl | rfl | rfl <;> first | exact fits_zero | exact fld_fit _ _ _ | exact chgV_fit _ _ | decide))) (Lib.hid HX.out.2) (Lib.hid HX.out.2) (Lib.hid hs) (Lib.hid G) (Lib.hid fun w' hb => by have := rrgetA a c bs w' (hs.keep hb) hnc hc k4; rw [ho] at this; exact this) (Lib.hid fun w => againA bs hkd ho w) (Lib.hid fun w => model_any 4 0 0 0 0 0 0 0 0 0 0 0 (fld bs 1 1) (fld bs 2 2) (fld bs 4 1) (decide ((numOf ((bs.drop 5).take 1) : Int) = 1)) 0 w)
    · have ho : okA bs = false := by
        unfold okA
        rw [decide_eq_false (by rintro ⟨h, _⟩; omega), Bool.false_and]
      exact gets_none a n c bs w hs ho G HZ (fun w' hb => rrget4 a n c bs w' (hs.keep hb) hpos k4 hlen)
  have hz : 4 < (bs.getD 0 0).toNat ∨ (bs.getD 0 0).toNat = 0 := by omega
  exact gets_none a n c bs w hs (ok := false) rfl (fun w' hb => recgetZ a n c bs w' (hs.keep hb) hn (by rw [hkd]; exact hz)) HZ (fun w' hb => rrget5 a n c bs _ w' (hs.keep hb) hpos rfl hz)
end Go.Proofs.Ytfffbhkenggdcaa
