/- Which records may be. -/
import Derived.Test.YtfffbhkenggdcaaRec3
import Derived.Test.YtfffbhkenggdcaaLaw09
import Derived.Test.YtfffbhkenggdcaaRow
import Derived.Test.YtfffbhkenggdcaaOps
import Derived.Test.YtfffbhkenggdcaaEq
import Derived.Test.YtfffbhkenggdcaaChgOps
import Derived.RegionTactic
import Derived.BigRegion
import Derived.ChangeAlike
namespace Go.Proofs.Ytfffbhkenggdcaa
set_option linter.unusedVariables false
set_option linter.unusedSimpArgs false
open Go.ChangeShapes Go.WideShapes Go.ChangeAt Go.RowKit
set_option maxRecDepth 100000 in
set_option maxHeartbeats 8000000 in
theorem fieldsZ_any (w : World) : Calls Try.prog 25 #[.agg (rec17 0 0 0 0 0 0 0 0 0 0 0 0 0 0 0 false 0).toArray] w fun e w' => e = .returned (.tuple #[.agg (rec17 0 0 0 0 0 0 0 0 0 0 0 0 0 0 0 false 0).toArray, .bool false]) ∧ Below w.heap.size w w' := by
  show Calls Try.prog 25 #[.agg #[.int .i64 0, .int .i64 0, .int .i64 0, .int .i64 0, .int .i64 0, .int .i64 0, .int .i64 0, .int .i64 0, .int .i64 0, .int .i64 0, .int .i64 0, .int .i64 0, .int .i64 0, .int .i64 0, .int .i64 0, .bool false, .int .i64 0]] w _
  have A1 := Blk.new w #[.int .i64 0, .int .i64 0, .int .i64 0, .int .i64 0, .int .i64 0, .int .i64 0, .int .i64 0, .int .i64 0, .int .i64 0, .int .i64 0, .int .i64 0, .int .i64 0, .int .i64 0, .int .i64 0, .int .i64 0, .bool false, .int .i64 0] 31
  have hz1 : (w.alloc (.cells #[.int .i64 0, .int .i64 0, .int .i64 0, .int .i64 0, .int .i64 0, .int .i64 0, .int .i64 0, .int .i64 0, .int .i64 0, .int .i64 0, .int .i64 0, .int .i64 0, .int .i64 0, .int .i64 0, .int .i64 0, .bool false, .int .i64 0] 31)).heap.size = w.heap.size + 1 := by simp
  have AC : Blk ((w.alloc (.cells #[.int .i64 0, .int .i64 0, .int .i64 0, .int .i64 0, .int .i64 0, .int .i64 0, .int .i64 0, .int .i64 0, .int .i64 0, .int .i64 0, .int .i64 0, .int .i64 0, .int .i64 0, .int .i64 0, .int .i64 0, .bool false, .int .i64 0] 31)).alloc (.cells #[.int .i64 0, .int .i64 0, .int .i64 0, .int .i64 0, .int .i64 0, .int .i64 0, .int .i64 0, .int .i64 0, .int .i64 0, .int .i64 0, .int .i64 0, .int .i64 0, .int .i64 0, .int .i64 0, .int .i64 0, .bool false, .int .i64 0] 31)) (w.heap.size + 1) [.int .i64 0, .int .i64 0, .int .i64 0, .int .i64 0, .int .i64 0, .int .i64 0, .int .i64 0, .int .i64 0, .int .i64 0, .int .i64 0, .int .i64 0, .int .i64 0, .int .i64 0, .int .i64 0, .int .i64 0, .bool false, .int .i64 0] 31 := hz1 ▸ Blk.new (w.alloc (.cells #[.int .i64 0, .int .i64 0, .int .i64 0, .int .i64 0, .int .i64 0, .int .i64 0, .int .i64 0, .int .i64 0, .int .i64 0, .int .i64 0, .int .i64 0, .int .i64 0, .int .i64 0, .int .i64 0, .int .i64 0, .bool false, .int .i64 0] 31)) #[.int .i64 0, .int .i64 0, .int .i64 0, .int .i64 0, .int .i64 0, .int .i64 0, .int .i64 0, .int .i64 0, .int .i64 0, .int .i64 0, .int .i64 0, .int .i64 0, .int .i64 0, .int .i64 0, .int .i64 0, .bool false, .int .i64 0] 31
  have A : Blk ((w.alloc (.cells #[.int .i64 0, .int .i64 0, .int .i64 0, .int .i64 0, .int .i64 0, .int .i64 0, .int .i64 0, .int .i64 0, .int .i64 0, .int .i64 0, .int .i64 0, .int .i64 0, .int .i64 0, .int .i64 0, .int .i64 0, .bool false, .int .i64 0] 31)).alloc (.cells #[.int .i64 0, .int .i64 0, .int .i64 0, .int .i64 0, .int .i64 0, .int .i64 0, .int .i64 0, .int .i64 0, .int .i64 0, .int .i64 0, .int .i64 0, .int .i64 0, .int .i64 0, .int .i64 0, .int .i64 0, .bool false, .int .i64 0] 31)) w.heap.size [.int .i64 0, .int .i64 0, .int .i64 0, .int .i64 0, .int .i64 0, .int .i64 0, .int .i64 0, .int .i64 0, .int .i64 0, .int .i64 0, .int .i64 0, .int .i64 0, .int .i64 0, .int .i64 0, .int .i64 0, .bool false, .int .i64 0] 31 := (A1.alloc _)
  have HB := Lib.hid ((((Below.refl w.heap.size w).alloc (Nat.le_refl _) (.cells #[.int .i64 0, .int .i64 0, .int .i64 0, .int .i64 0, .int .i64 0, .int .i64 0, .int .i64 0, .int .i64 0, .int .i64 0, .int .i64 0, .int .i64 0, .int .i64 0, .int .i64 0, .int .i64 0, .int .i64 0, .bool false, .int .i64 0] 31)).alloc (by rw [hz1]; omega) (.cells #[.int .i64 0, .int .i64 0, .int .i64 0, .int .i64 0, .int .i64 0, .int .i64 0, .int .i64 0, .int .i64 0, .int .i64 0, .int .i64 0, .int .i64 0, .int .i64 0, .int .i64 0, .int .i64 0, .int .i64 0, .bool false, .int .i64 0] 31)))
  have HC := Lib.hid AC
  have HV := rec17_ok 0 0 0 0 0 0 0 0 0 0 0 0 0 0 0 false 0
  go_enter Try.func25, Try.ntmps25
  go_upto_region 1 with fail
  generalize ((w.alloc (.cells #[.int .i64 0, .int .i64 0, .int .i64 0, .int .i64 0, .int .i64 0, .int .i64 0, .int .i64 0, .int .i64 0, .int .i64 0, .int .i64 0, .int .i64 0, .int .i64 0, .int .i64 0, .int .i64 0, .int .i64 0, .bool false, .int .i64 0] 31)).alloc (.cells #[.int .i64 0, .int .i64 0, .int .i64 0, .int .i64 0, .int .i64 0, .int .i64 0, .int .i64 0, .int .i64 0, .int .i64 0, .int .i64 0, .int .i64 0, .int .i64 0, .int .i64 0, .int .i64 0, .int .i64 0, .bool false, .int .i64 0] 31)) = W at *
  have c0 : W.cell? ⟨w.heap.size, 0, none⟩ = some (.int .i64 0) := A.cell 0
  have C5 := Lib.hid (HC.out.setAll (rec17 0 0 0 0 0 0 0 0 0 0 0 0 0 0 0 false 0) rfl)
  have HBZ := Lib.hid (below_sets (Nat.le_succ _) (rec17 0 0 0 0 0 0 0 0 0 0 0 0 0 0 0 false 0) 0 _ HB.out)
  clear A A1 hz1 AC
  go_wp2_with (first
    | ((with_reducible apply rc_store); (· rfl); (· show _ = Value.agg (rec17 0 0 0 0 0 0 0 0 0 0 0 0 0 0 0 false 0).toArray; rfl); (· exact HC.out); (· rfl); (· exact HV); (simp only [Act.put, List.setIfInBounds_toArray, List.set_cons_zero, List.set_cons_succ]); (generalize W.setCells (w.heap.size + 1) 0 (rec17 0 0 0 0 0 0 0 0 0 0 0 0 0 0 0 false 0) = WW at *)))
  refine ret_cell_tmp (p := 2) (q := 3) rfl rfl rfl C5.out Try.underlying31 rfl (by rw [rc_size]; rfl) rfl ⟨rfl, HBZ.out⟩
theorem flat17 : flat Try.prog 4 31 = some (List.replicate 15 (some IntKind.i64) ++ ([none, some IntKind.i64] : List (Option IntKind))) := by kernel_rfl
theorem ok17 {kd r s t k a b n p q i1 i2 k1 k2 ko : Int} {ku : Bool} {now : Int} (h : ∀ z ∈ [kd, r, s, t, k, a, b, n, p, q, i1, i2, k1, k2, ko, now], fits z = true) : OkAll (List.replicate 15 (some IntKind.i64) ++ ([none, some IntKind.i64] : List (Option IntKind))) (rec17 kd r s t k a b n p q i1 i2 k1 k2 ko ku now) := by
  have f : ∀ z ∈ [kd, r, s, t, k, a, b, n, p, q, i1, i2, k1, k2, ko, now], CellOk (some .i64) (.int .i64 z) := fun z hz => ⟨z, rfl, wf_fits9 (h z hz)⟩
  exact ⟨f kd (by simp), f r (by simp), f s (by simp), f t (by simp), f k (by simp), f a (by simp), f b (by simp), f n (by simp), f p (by simp), f q (by simp), f i1 (by simp), f i2 (by simp), f k1 (by simp), f k2 (by simp), f ko (by simp), ⟨_, rfl⟩, f now (by simp), trivial⟩
theorem rc_eq {x y : List Value} (hx : OkAll (List.replicate 15 (some IntKind.i64) ++ ([none, some IntKind.i64] : List (Option IntKind))) x) (hy : OkAll (List.replicate 15 (some IntKind.i64) ++ ([none, some IntKind.i64] : List (Option IntKind))) y) (w : World) : (binOp .eql 31 (.agg x.toArray) (.agg y.toArray)).run Try.prog w = .ok (.bool (sameB x y)) w :=
  eql_flat 4 5 31 _ _ _ w flat17 (by kernel_rfl) (by kernel_rfl) (by kernel_rfl) (by decide) hx hy
theorem rc_ne {x y : List Value} (hx : OkAll (List.replicate 15 (some IntKind.i64) ++ ([none, some IntKind.i64] : List (Option IntKind))) x) (hy : OkAll (List.replicate 15 (some IntKind.i64) ++ ([none, some IntKind.i64] : List (Option IntKind))) y) (w : World) : (binOp .neq 31 (.agg x.toArray) (.agg y.toArray)).run Try.prog w = .ok (.bool (!sameB x y)) w :=
  neq_flat 4 5 31 _ _ _ w flat17 (by kernel_rfl) (by kernel_rfl) (by kernel_rfl) (by decide) hx hy
theorem rc_neq {d t t' : Nat} {ty rt : TypeId} {ps : String} {af : Array Edge} {a : Act} {w : World} {ops : Array Oper} {rest : List Oper} {Q : Exit → Act → World → Prop} {X Y : List Value} {v : Bool} (NE : Hid (∀ w, (binOp .neq 31 (.agg X.toArray) (.agg Y.toArray)).run Try.prog w = .ok (.bool (!v)) w))
    (hx : a.eval (.tmp t) = .agg X.toArray) (hy : a.eval (.tmp t') = .agg Y.toArray) (h : wpList Try.prog ops Q rest (a.put (some d) (.bool (!v))) w) :
    wpList Try.prog ops Q (⟨some d, .binOp .neq 31 (.tmp t) (.tmp t') rt, ty, ps, af, none⟩ :: rest) a w :=
  ls_run rfl (run_op_cmp rfl hx hy (by kernel_rfl) (NE.out w)) h
set_option maxRecDepth 100000 in
set_option maxHeartbeats 8000000 in
theorem check_of {X Y : List Value} {ky : Int} {v : Bool} (hX : OkAll (List.replicate 15 (some IntKind.i64) ++ ([none, some IntKind.i64] : List (Option IntKind))) X) (hY : OkAll (List.replicate 15 (some IntKind.i64) ++ ([none, some IntKind.i64] : List (Option IntKind))) Y) (vX : Hid (X.length = 17 ∧ ∀ u ∈ X, u.oneCell' = true)) (vY : Hid (Y.length = 17 ∧ ∀ u ∈ Y, u.oneCell' = true)) (h0 : Y[0]? = some (.int .i64 ky))
    (HF : Hid (∀ w, Calls Try.prog 25 #[.agg X.toArray] w fun e w' => e = .returned (.tuple #[.agg Y.toArray, .bool v]) ∧ Below w.heap.size w w')) (w : World) :
    Calls Try.prog 14 #[.agg X.toArray] w fun e w' => e = .returned (.int .i64 (if ky = 0 then 12 else if v = false then 4 else if sameB X Y = true then 0 else 16)) ∧ Below w.heap.size w w' := by
  have NE := Lib.hid (fun w => rc_ne hX hY w)
  have H0 := Lib.hid h0
  have AX := Lib.hid (Blk.new w X.toArray 31)
  have HB := Lib.hid ((Below.refl w.heap.size w).alloc (Nat.le_refl _) (.cells X.toArray 31))
  clear hX hY h0
  go_enter Try.func14, Try.ntmps14
  go_upto_region 1 with fail
  generalize w.alloc (.cells X.toArray 31) = W at *
  have rx : W.rangeAt w.heap.size 0 X := AX.out.range 0 _ (by simp)
  go_wp2_with (first
    | ((with_reducible apply rc_load); (· rfl); (· (first | assumption)); (· assumption); (simp only [Act.put, List.setIfInBounds_toArray, List.set_cons_zero, List.set_cons_succ])))
  refine (HF.out _).mono ?_
  rintro e w2 ⟨rfl, hb⟩
  have HB2 := Lib.hid (HB.out.trans (hb.mono HB.out.size))
  have AX2 := Lib.hid (AX.out.keep hb AX.out.lt)
  clear hb HB rx
  have AX3 : Hid (Blk (w2.alloc (.cells Y.toArray 31)) w.heap.size X 31) := Lib.hid (AX2.out.alloc _)
  have AY3 := Lib.hid (Blk.new w2 Y.toArray 31)
  have HB3 := Lib.hid (HB2.out.alloc HB2.out.size (.cells Y.toArray 31))
  clear AX AX2
  go_upto_region 2 with (first
    | ((with_reducible apply rc_store_new); (· rfl); (· first | rfl | simp); (· rfl); (· rfl); (· assumption); (simp only [Act.put, List.setIfInBounds_toArray, List.set_cons_zero, List.set_cons_succ])))
  generalize w2.alloc (.cells Y.toArray 31) = w3 at *
  generalize w2.heap.size = gy at *
  have rx : w3.rangeAt w.heap.size 0 X := AX3.out.range 0 _ (by simp)
  have ry : w3.rangeAt gy 0 Y := AY3.out.range 0 _ (by simp)
  have c0 : w3.cell? ⟨gy, 0, none⟩ = some (.int .i64 ky) := (AY3.out.cell 0).trans H0.out
  clear AX3 AY3
  by_cases hk : ky = 0
  · subst hk
    go_wp2_with fail
    go_ret
    exact ⟨rfl, HB3.out⟩
  · rcases v with _ | _
    · go_wp2_with fail
      go_ret
      exact ⟨by first | rfl | (rw [if_neg hk]; rfl) | simp [hk], HB3.out⟩
    · have NE2 := NE
      rcases hs : sameB X Y with _ | _
      · rw [hs] at NE
        go_wp2_with (first
          | ((with_reducible apply rc_load); (· rfl); (· (first | assumption)); (· assumption); (simp only [Act.put, List.setIfInBounds_toArray, List.set_cons_zero, List.set_cons_succ]))
          | ((with_reducible apply rc_neq NE); (· rfl); (· rfl); (simp only [Act.put, List.setIfInBounds_toArray, List.set_cons_zero, List.set_cons_succ])))
        go_ret
        exact ⟨by first | rfl | (rw [if_neg hk]; rfl) | simp [hk], HB3.out⟩
      · rw [hs] at NE
        go_wp2_with (first
          | ((with_reducible apply rc_load); (· rfl); (· (first | assumption)); (· assumption); (simp only [Act.put, List.setIfInBounds_toArray, List.set_cons_zero, List.set_cons_succ]))
          | ((with_reducible apply rc_neq NE); (· rfl); (· rfl); (simp only [Act.put, List.setIfInBounds_toArray, List.set_cons_zero, List.set_cons_succ])))
        go_ret
        exact ⟨by first | rfl | (rw [if_neg hk]; rfl) | simp [hk], HB3.out⟩
end Go.Proofs.Ytfffbhkenggdcaa
