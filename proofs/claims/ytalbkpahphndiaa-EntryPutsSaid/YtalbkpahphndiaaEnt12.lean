/- The statements' own entries: one that is alive. -/
import Derived.Test.YtalbkpahphndiaaEnt11
import Derived.Test.YtalbkpahphndiaaMath20
import Derived.Test.YtalbkpahphndiaaLaw09
import Derived.Test.YtalbkpahphndiaaRow
import Derived.Test.YtalbkpahphndiaaOps
import Derived.RegionTactic
import Derived.BigRegion
import Derived.ChangeAlike
namespace Go.Proofs.Ytalbkpahphndiaa
set_option linter.unusedVariables false
set_option linter.unusedSimpArgs false
open Go.ChangeShapes Go.WideShapes Go.ChangeAt Go.RowKit
theorem flat12 : flat Try.prog 4 49 = some (List.replicate 8 (some IntKind.i64) ++ ([none, none, some IntKind.i64, some IntKind.i64] : List (Option IntKind))) := by kernel_rfl
theorem flat12r : flat Try.prog 4 52 = some (List.replicate 8 (some IntKind.i64) ++ ([none, none, some IntKind.i64, some IntKind.i64] : List (Option IntKind))) := by kernel_rfl
theorem ok12 {o k a n p q s l : Int} {ak gn : Bool} {b bl : Int} (h : ∀ z ∈ [o, k, a, n, p, q, s, l, b, bl], fits z = true) : OkAll (List.replicate 8 (some IntKind.i64) ++ ([none, none, some IntKind.i64, some IntKind.i64] : List (Option IntKind))) (enc12 o k a n p q s l ak gn b bl) := by
  have f : ∀ z ∈ [o, k, a, n, p, q, s, l, b, bl], CellOk (some .i64) (.int .i64 z) := fun z hz => ⟨z, rfl, wf_fits9 (h z hz)⟩
  refine ⟨f o (by simp), f k (by simp), f a (by simp), f n (by simp), f p (by simp), f q (by simp), f s (by simp), f l (by simp), ⟨_, rfl⟩, ⟨_, rfl⟩, f b (by simp), f bl (by simp), trivial⟩
theorem en_eq {x y : List Value} (hx : OkAll (List.replicate 8 (some IntKind.i64) ++ ([none, none, some IntKind.i64, some IntKind.i64] : List (Option IntKind))) x) (hy : OkAll (List.replicate 8 (some IntKind.i64) ++ ([none, none, some IntKind.i64, some IntKind.i64] : List (Option IntKind))) y) (w : World) : (binOp .eql 49 (.agg x.toArray) (.agg y.toArray)).run Try.prog w = .ok (.bool (sameB x y)) w :=
  eql_flat 4 5 49 _ _ _ w flat12 (by kernel_rfl) (by kernel_rfl) (by kernel_rfl) (by decide) hx hy
theorem en_ne {x y : List Value} (hx : OkAll (List.replicate 8 (some IntKind.i64) ++ ([none, none, some IntKind.i64, some IntKind.i64] : List (Option IntKind))) x) (hy : OkAll (List.replicate 8 (some IntKind.i64) ++ ([none, none, some IntKind.i64, some IntKind.i64] : List (Option IntKind))) y) (w : World) : (binOp .neq 49 (.agg x.toArray) (.agg y.toArray)).run Try.prog w = .ok (.bool (!sameB x y)) w :=
  neq_flat 4 5 49 _ _ _ w flat12 (by kernel_rfl) (by kernel_rfl) (by kernel_rfl) (by decide) hx hy
theorem er_eq {x y : List Value} (hx : OkAll (List.replicate 8 (some IntKind.i64) ++ ([none, none, some IntKind.i64, some IntKind.i64] : List (Option IntKind))) x) (hy : OkAll (List.replicate 8 (some IntKind.i64) ++ ([none, none, some IntKind.i64, some IntKind.i64] : List (Option IntKind))) y) (w : World) : (binOp .eql 52 (.agg x.toArray) (.agg y.toArray)).run Try.prog w = .ok (.bool (sameB x y)) w :=
  eql_flat 4 5 52 _ _ _ w flat12r (by kernel_rfl) (by kernel_rfl) (by kernel_rfl) (by decide) hx hy
set_option maxRecDepth 100000 in
set_option maxHeartbeats 4000000 in
theorem model_any (o k a n p q s l : Int) (ak gn : Bool) (b bl : Int) (w : World) : Calls Try.prog 21 #[.agg #[.int .i64 o, .int .i64 k, .int .i64 a, .int .i64 n, .int .i64 p, .int .i64 q, .int .i64 s, .int .i64 l, .bool ak, .bool gn, .int .i64 b, .int .i64 bl]] w fun e w' => e = .returned (.agg (enc12 o k a n p q s l ak gn b bl).toArray) ∧ Below w.heap.size w w' := by
  have A1 := Blk.new w #[.int .i64 o, .int .i64 k, .int .i64 a, .int .i64 n, .int .i64 p, .int .i64 q, .int .i64 s, .int .i64 l, .bool ak, .bool gn, .int .i64 b, .int .i64 bl] 49
  have hz1 : (w.alloc (.cells #[.int .i64 o, .int .i64 k, .int .i64 a, .int .i64 n, .int .i64 p, .int .i64 q, .int .i64 s, .int .i64 l, .bool ak, .bool gn, .int .i64 b, .int .i64 bl] 49)).heap.size = w.heap.size + 1 := by simp
  have AC : Blk ((w.alloc (.cells #[.int .i64 o, .int .i64 k, .int .i64 a, .int .i64 n, .int .i64 p, .int .i64 q, .int .i64 s, .int .i64 l, .bool ak, .bool gn, .int .i64 b, .int .i64 bl] 49)).alloc (.cells #[.int .i64 0, .int .i64 0, .int .i64 0, .int .i64 0, .int .i64 0, .int .i64 0, .int .i64 0, .int .i64 0, .bool false, .bool false, .int .i64 0, .int .i64 0] 52)) (w.heap.size + 1) [.int .i64 0, .int .i64 0, .int .i64 0, .int .i64 0, .int .i64 0, .int .i64 0, .int .i64 0, .int .i64 0, .bool false, .bool false, .int .i64 0, .int .i64 0] 52 := hz1 ▸ Blk.new (w.alloc (.cells #[.int .i64 o, .int .i64 k, .int .i64 a, .int .i64 n, .int .i64 p, .int .i64 q, .int .i64 s, .int .i64 l, .bool ak, .bool gn, .int .i64 b, .int .i64 bl] 49)) #[.int .i64 0, .int .i64 0, .int .i64 0, .int .i64 0, .int .i64 0, .int .i64 0, .int .i64 0, .int .i64 0, .bool false, .bool false, .int .i64 0, .int .i64 0] 52
  have A : Blk ((w.alloc (.cells #[.int .i64 o, .int .i64 k, .int .i64 a, .int .i64 n, .int .i64 p, .int .i64 q, .int .i64 s, .int .i64 l, .bool ak, .bool gn, .int .i64 b, .int .i64 bl] 49)).alloc (.cells #[.int .i64 0, .int .i64 0, .int .i64 0, .int .i64 0, .int .i64 0, .int .i64 0, .int .i64 0, .int .i64 0, .bool false, .bool false, .int .i64 0, .int .i64 0] 52)) w.heap.size (enc12 o k a n p q s l ak gn b bl) 49 := (A1.alloc _)
  have HC := Lib.hid AC
  have HB := Lib.hid ((((Below.refl w.heap.size w).alloc (Nat.le_refl _) (.cells #[.int .i64 o, .int .i64 k, .int .i64 a, .int .i64 n, .int .i64 p, .int .i64 q, .int .i64 s, .int .i64 l, .bool ak, .bool gn, .int .i64 b, .int .i64 bl] 49)).alloc (by rw [hz1]; omega) (.cells #[.int .i64 0, .int .i64 0, .int .i64 0, .int .i64 0, .int .i64 0, .int .i64 0, .int .i64 0, .int .i64 0, .bool false, .bool false, .int .i64 0, .int .i64 0] 52)))
  have HV := enc12_ok o k a n p q s l ak gn b bl
  clear A1 AC hz1
  go_enter Try.func21, Try.ntmps21
  go_upto_region 1 with fail
  generalize ((w.alloc (.cells #[.int .i64 o, .int .i64 k, .int .i64 a, .int .i64 n, .int .i64 p, .int .i64 q, .int .i64 s, .int .i64 l, .bool ak, .bool gn, .int .i64 b, .int .i64 bl] 49)).alloc (.cells #[.int .i64 0, .int .i64 0, .int .i64 0, .int .i64 0, .int .i64 0, .int .i64 0, .int .i64 0, .int .i64 0, .bool false, .bool false, .int .i64 0, .int .i64 0] 52)) = W at *
  have c0 : W.cell? ⟨w.heap.size, 0, none⟩ = some (.int .i64 o) := A.cell 0
  have c1 : W.cell? ⟨w.heap.size, 1, none⟩ = some (.int .i64 k) := A.cell 1
  have c2 : W.cell? ⟨w.heap.size, 2, none⟩ = some (.int .i64 a) := A.cell 2
  have c3 : W.cell? ⟨w.heap.size, 3, none⟩ = some (.int .i64 n) := A.cell 3
  have c4 : W.cell? ⟨w.heap.size, 4, none⟩ = some (.int .i64 p) := A.cell 4
  have c5 : W.cell? ⟨w.heap.size, 5, none⟩ = some (.int .i64 q) := A.cell 5
  have c6 : W.cell? ⟨w.heap.size, 6, none⟩ = some (.int .i64 s) := A.cell 6
  have c7 : W.cell? ⟨w.heap.size, 7, none⟩ = some (.int .i64 l) := A.cell 7
  have c8 : W.cell? ⟨w.heap.size, 8, none⟩ = some (.bool ak) := A.cell 8
  have c9 : W.cell? ⟨w.heap.size, 9, none⟩ = some (.bool gn) := A.cell 9
  have c10 : W.cell? ⟨w.heap.size, 10, none⟩ = some (.int .i64 b) := A.cell 10
  have c11 : W.cell? ⟨w.heap.size, 11, none⟩ = some (.int .i64 bl) := A.cell 11
  have C5 := Lib.hid (HC.out.setAll (enc12 o k a n p q s l ak gn b bl) rfl)
  have HBZ := Lib.hid (below_sets (Nat.le_succ _) (enc12 o k a n p q s l ak gn b bl) 0 _ HB.out)
  clear A
  go_wp2_with (first
    | ((with_reducible apply er_store); (· rfl); (· show _ = Value.agg (enc12 o k a n p q s l ak gn b bl).toArray; rfl); (· exact HC.out); (· rfl); (· exact HV); (simp only [Act.put, List.setIfInBounds_toArray, List.set_cons_zero, List.set_cons_succ]); (generalize W.setCells (w.heap.size + 1) 0 (enc12 o k a n p q s l ak gn b bl) = WW at *)))
  refine ret_cell (p := 2) rfl rfl C5.out Try.underlying52 rfl (by rw [er_size]; rfl) rfl ⟨rfl, HBZ.out⟩
end Go.Proofs.Ytalbkpahphndiaa
