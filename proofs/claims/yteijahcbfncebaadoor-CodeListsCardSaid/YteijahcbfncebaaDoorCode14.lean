/- The reference's fields of a step. -/
import Derived.Test.YteijahcbfncebaaDoorCode13
import Derived.RegionTactic
import Derived.BigRegion
import Derived.ChangeAlike
namespace Go.Proofs.YteijahcbfncebaaDoor
set_option linter.unusedVariables false
set_option linter.unusedSimpArgs false
open Go.ChangeShapes Go.WideShapes Go.ChangeAt Go.RowKit
theorem rowB4 : RowT 56 4 := ⟨⟨_, Tryd.underlying56, rfl⟩, by kernel_rfl⟩
def bit (F : Int) (m : Int) : Bool := decide (F / m % 2 = 1)
def hasV (F : Int) : Array Value := #[.bool (bit F 1), .bool (bit F 2), .bool (bit F 4), .bool (bit F 8)]
set_option maxRecDepth 100000 in
set_option maxHeartbeats 1000000 in
theorem has_1 (w : World) : Calls Tryd.prog 21 #[.int .i64 1] w fun e w' => e = .returned (.agg #[.bool true, .bool false, .bool false, .bool true]) ∧ Below w.heap.size w w' := by
  go_enter Tryd.func21, Tryd.ntmps21
  go_wp2_with fail
  have C := (Blk.new w #[.bool true, .bool false, .bool false, .bool true] 56)
  exact ret_cell (p := 2) rfl rfl C Tryd.underlying56 rfl rowB4.2 rfl ⟨rfl, (Below.refl _ _).alloc (Nat.le_refl _) _⟩
set_option maxRecDepth 100000 in
set_option maxHeartbeats 1000000 in
theorem has_2 (w : World) : Calls Tryd.prog 21 #[.int .i64 2] w fun e w' => e = .returned (.agg #[.bool true, .bool false, .bool false, .bool false]) ∧ Below w.heap.size w w' := by
  go_enter Tryd.func21, Tryd.ntmps21
  go_wp2_with fail
  have C := (Blk.new w #[.bool true, .bool false, .bool false, .bool false] 56)
  exact ret_cell (p := 2) rfl rfl C Tryd.underlying56 rfl rowB4.2 rfl ⟨rfl, (Below.refl _ _).alloc (Nat.le_refl _) _⟩
set_option maxRecDepth 100000 in
set_option maxHeartbeats 1000000 in
theorem has_3 (w : World) : Calls Tryd.prog 21 #[.int .i64 3] w fun e w' => e = .returned (.agg #[.bool true, .bool true, .bool false, .bool false]) ∧ Below w.heap.size w w' := by
  go_enter Tryd.func21, Tryd.ntmps21
  go_wp2_with fail
  have C := (Blk.new w #[.bool true, .bool true, .bool false, .bool false] 56)
  exact ret_cell (p := 2) rfl rfl C Tryd.underlying56 rfl rowB4.2 rfl ⟨rfl, (Below.refl _ _).alloc (Nat.le_refl _) _⟩
set_option maxRecDepth 100000 in
set_option maxHeartbeats 1000000 in
theorem has_4 (w : World) : Calls Tryd.prog 21 #[.int .i64 4] w fun e w' => e = .returned (.agg #[.bool false, .bool false, .bool true, .bool false]) ∧ Below w.heap.size w w' := by
  go_enter Tryd.func21, Tryd.ntmps21
  go_wp2_with fail
  have C := (Blk.new w #[.bool false, .bool false, .bool true, .bool false] 56)
  exact ret_cell (p := 2) rfl rfl C Tryd.underlying56 rfl rowB4.2 rfl ⟨rfl, (Below.refl _ _).alloc (Nat.le_refl _) _⟩
set_option maxRecDepth 100000 in
set_option maxHeartbeats 1000000 in
theorem has_5 (w : World) : Calls Tryd.prog 21 #[.int .i64 5] w fun e w' => e = .returned (.agg #[.bool true, .bool false, .bool false, .bool false]) ∧ Below w.heap.size w w' := by
  go_enter Tryd.func21, Tryd.ntmps21
  go_wp2_with fail
  have C := (Blk.new w #[.bool true, .bool false, .bool false, .bool false] 56)
  exact ret_cell (p := 2) rfl rfl C Tryd.underlying56 rfl rowB4.2 rfl ⟨rfl, (Below.refl _ _).alloc (Nat.le_refl _) _⟩
set_option maxRecDepth 100000 in
set_option maxHeartbeats 1000000 in
theorem has_6 (w : World) : Calls Tryd.prog 21 #[.int .i64 6] w fun e w' => e = .returned (.agg #[.bool false, .bool false, .bool true, .bool false]) ∧ Below w.heap.size w w' := by
  go_enter Tryd.func21, Tryd.ntmps21
  go_wp2_with fail
  have C := (Blk.new w #[.bool false, .bool false, .bool true, .bool false] 56)
  exact ret_cell (p := 2) rfl rfl C Tryd.underlying56 rfl rowB4.2 rfl ⟨rfl, (Below.refl _ _).alloc (Nat.le_refl _) _⟩
set_option maxRecDepth 100000 in
set_option maxHeartbeats 1000000 in
theorem has_7 (w : World) : Calls Tryd.prog 21 #[.int .i64 7] w fun e w' => e = .returned (.agg #[.bool false, .bool true, .bool false, .bool false]) ∧ Below w.heap.size w w' := by
  go_enter Tryd.func21, Tryd.ntmps21
  go_wp2_with fail
  have C := (Blk.new w #[.bool false, .bool true, .bool false, .bool false] 56)
  exact ret_cell (p := 2) rfl rfl C Tryd.underlying56 rfl rowB4.2 rfl ⟨rfl, (Below.refl _ _).alloc (Nat.le_refl _) _⟩
set_option maxRecDepth 100000 in
set_option maxHeartbeats 1000000 in
theorem has_8 (w : World) : Calls Tryd.prog 21 #[.int .i64 8] w fun e w' => e = .returned (.agg #[.bool false, .bool true, .bool false, .bool false]) ∧ Below w.heap.size w w' := by
  go_enter Tryd.func21, Tryd.ntmps21
  go_wp2_with fail
  have C := (Blk.new w #[.bool false, .bool true, .bool false, .bool false] 56)
  exact ret_cell (p := 2) rfl rfl C Tryd.underlying56 rfl rowB4.2 rfl ⟨rfl, (Below.refl _ _).alloc (Nat.le_refl _) _⟩
set_option maxRecDepth 100000 in
set_option maxHeartbeats 1000000 in
theorem has_9 (w : World) : Calls Tryd.prog 21 #[.int .i64 9] w fun e w' => e = .returned (.agg #[.bool false, .bool true, .bool false, .bool false]) ∧ Below w.heap.size w w' := by
  go_enter Tryd.func21, Tryd.ntmps21
  go_wp2_with fail
  have C := (Blk.new w #[.bool false, .bool true, .bool false, .bool false] 56)
  exact ret_cell (p := 2) rfl rfl C Tryd.underlying56 rfl rowB4.2 rfl ⟨rfl, (Below.refl _ _).alloc (Nat.le_refl _) _⟩
set_option maxRecDepth 100000 in
set_option maxHeartbeats 1000000 in
theorem has_10 (w : World) : Calls Tryd.prog 21 #[.int .i64 10] w fun e w' => e = .returned (.agg #[.bool false, .bool true, .bool true, .bool false]) ∧ Below w.heap.size w w' := by
  go_enter Tryd.func21, Tryd.ntmps21
  go_wp2_with fail
  have C := (Blk.new w #[.bool false, .bool true, .bool true, .bool false] 56)
  exact ret_cell (p := 2) rfl rfl C Tryd.underlying56 rfl rowB4.2 rfl ⟨rfl, (Below.refl _ _).alloc (Nat.le_refl _) _⟩
set_option maxRecDepth 100000 in
set_option maxHeartbeats 1000000 in
theorem has_11 (w : World) : Calls Tryd.prog 21 #[.int .i64 11] w fun e w' => e = .returned (.agg #[.bool false, .bool false, .bool true, .bool false]) ∧ Below w.heap.size w w' := by
  go_enter Tryd.func21, Tryd.ntmps21
  go_wp2_with fail
  have C := (Blk.new w #[.bool false, .bool false, .bool true, .bool false] 56)
  exact ret_cell (p := 2) rfl rfl C Tryd.underlying56 rfl rowB4.2 rfl ⟨rfl, (Below.refl _ _).alloc (Nat.le_refl _) _⟩
set_option maxRecDepth 100000 in
set_option maxHeartbeats 1000000 in
theorem has_12 (w : World) : Calls Tryd.prog 21 #[.int .i64 12] w fun e w' => e = .returned (.agg #[.bool true, .bool false, .bool false, .bool false]) ∧ Below w.heap.size w w' := by
  go_enter Tryd.func21, Tryd.ntmps21
  go_wp2_with fail
  have C := (Blk.new w #[.bool true, .bool false, .bool false, .bool false] 56)
  exact ret_cell (p := 2) rfl rfl C Tryd.underlying56 rfl rowB4.2 rfl ⟨rfl, (Below.refl _ _).alloc (Nat.le_refl _) _⟩
set_option maxRecDepth 100000 in
set_option maxHeartbeats 1000000 in
theorem has_13 (w : World) : Calls Tryd.prog 21 #[.int .i64 13] w fun e w' => e = .returned (.agg #[.bool true, .bool false, .bool false, .bool false]) ∧ Below w.heap.size w w' := by
  go_enter Tryd.func21, Tryd.ntmps21
  go_wp2_with fail
  have C := (Blk.new w #[.bool true, .bool false, .bool false, .bool false] 56)
  exact ret_cell (p := 2) rfl rfl C Tryd.underlying56 rfl rowB4.2 rfl ⟨rfl, (Below.refl _ _).alloc (Nat.le_refl _) _⟩
set_option maxRecDepth 100000 in
set_option maxHeartbeats 1000000 in
theorem has_14 (w : World) : Calls Tryd.prog 21 #[.int .i64 14] w fun e w' => e = .returned (.agg #[.bool true, .bool false, .bool true, .bool false]) ∧ Below w.heap.size w w' := by
  go_enter Tryd.func21, Tryd.ntmps21
  go_wp2_with fail
  have C := (Blk.new w #[.bool true, .bool false, .bool true, .bool false] 56)
  exact ret_cell (p := 2) rfl rfl C Tryd.underlying56 rfl rowB4.2 rfl ⟨rfl, (Below.refl _ _).alloc (Nat.le_refl _) _⟩
set_option maxRecDepth 100000 in
set_option maxHeartbeats 1000000 in
theorem has_15 (w : World) : Calls Tryd.prog 21 #[.int .i64 15] w fun e w' => e = .returned (.agg #[.bool true, .bool false, .bool false, .bool false]) ∧ Below w.heap.size w w' := by
  go_enter Tryd.func21, Tryd.ntmps21
  go_wp2_with fail
  have C := (Blk.new w #[.bool true, .bool false, .bool false, .bool false] 56)
  exact ret_cell (p := 2) rfl rfl C Tryd.underlying56 rfl rowB4.2 rfl ⟨rfl, (Below.refl _ _).alloc (Nat.le_refl _) _⟩
theorem has_any (k : Nat) (w : World) (hk0 : 1 ≤ k) (hk : k < 16) : Calls Tryd.prog 21 #[.int .i64 (k : Int)] w fun e w' => e = .returned (.agg (hasV (tabF.getD k 0))) ∧ Below w.heap.size w w' := by
  match k, hk0, hk with
  | 1, _, _ => exact has_1 w
  | 2, _, _ => exact has_2 w
  | 3, _, _ => exact has_3 w
  | 4, _, _ => exact has_4 w
  | 5, _, _ => exact has_5 w
  | 6, _, _ => exact has_6 w
  | 7, _, _ => exact has_7 w
  | 8, _, _ => exact has_8 w
  | 9, _, _ => exact has_9 w
  | 10, _, _ => exact has_10 w
  | 11, _, _ => exact has_11 w
  | 12, _, _ => exact has_12 w
  | 13, _, _ => exact has_13 w
  | 14, _, _ => exact has_14 w
  | 15, _, _ => exact has_15 w
  | k + 16, _, hk => exact absurd hk (by omega)
end Go.Proofs.YteijahcbfncebaaDoor
