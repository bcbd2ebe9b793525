/- Steps: their cells whole; the fields that a kind has. -/
import Derived.Test.YteijahcbfncebaaDoorLd
import Derived.Test.YteijahcbfncebaaDoorNum
import Derived.Test.YteijahcbfncebaaDoorChg
import Derived.RegionTactic
import Derived.BigRegion
import Derived.ChangeAlike
namespace Go.Proofs.YteijahcbfncebaaDoor
set_option linter.unusedVariables false
set_option linter.unusedSimpArgs false
open Go.ChangeShapes Go.WideShapes Go.ChangeAt Go.RowKit
theorem rowS : RowT 27 13 := ⟨⟨_, Tryd.underlying27, rfl⟩, by kernel_rfl⟩
theorem rowC : RowT 25 9 := ⟨⟨_, Tryd.underlying25, rfl⟩, by kernel_rfl⟩
theorem rowI : RowT 23 2 := ⟨⟨_, Tryd.underlying23, rfl⟩, by kernel_rfl⟩
/-- the table of fields, as it stands in the program's text. -/
def tabF : List Int := [0, 9, 1, 3, 4, 1, 4, 2, 2, 2, 6, 4, 1, 1, 5, 1]
def TabF (w : World) : Prop := ∀ j, j < 16 → w.cell? ⟨0, j, none⟩ = some (.int .i64 (tabF.getD j 0))
theorem TabF.keep {w w' : World} (h : TabF w) {B : Nat} (hb : Below B w w') (hB : 0 < B) : TabF w' := fun j hj => by
  rw [← h j hj]; exact hb.cell hB
set_option maxRecDepth 100000 in
set_option maxHeartbeats 4000000 in
theorem own_1 (k : Nat) (r i n i1 i2 t ck a b cn p q : Int) (w : World) (hk : k < 16) (hT : w.cell? ⟨0, k, none⟩ = some (.int .i64 1)) :
    Calls Tryd.prog 25 #[.agg #[.int .i64 (k : Int), .int .i64 r, .int .i64 i, .int .i64 n, .int .i64 i1, .int .i64 i2, .int .i64 t, .int .i64 ck, .int .i64 a, .int .i64 b, .int .i64 cn, .int .i64 p, .int .i64 q]] w fun e w' => e = .returned (.agg #[.int .i64 (k : Int), .int .i64 r, .int .i64 0, .int .i64 0, .int .i64 0, .int .i64 0, .int .i64 0, .int .i64 0, .int .i64 0, .int .i64 0, .int .i64 0, .int .i64 0, .int .i64 0]) ∧ Below w.heap.size w w' := by
  have hk0 : (0 : Int) ≤ (k : Int) := by omega
  have hk1 : (k : Int) < 16 := by omega
  have hlt : 0 < w.heap.size := block_lt_of_cell hT
  have hb1 := ((Below.refl w.heap.size w).alloc (Nat.le_refl _) (.cells #[.int .i64 (k : Int), .int .i64 r, .int .i64 i, .int .i64 n, .int .i64 i1, .int .i64 i2, .int .i64 t, .int .i64 ck, .int .i64 a, .int .i64 b, .int .i64 cn, .int .i64 p, .int .i64 q] 27)).alloc (by simp) (.cells #[.int .i64 0, .int .i64 0, .int .i64 0, .int .i64 0, .int .i64 0, .int .i64 0, .int .i64 0, .int .i64 0, .int .i64 0, .int .i64 0, .int .i64 0, .int .i64 0, .int .i64 0] 27)
  have hb2 := hb1.alloc (by simp; omega) (.cells #[.int .i64 (k : Int), .int .i64 0, .int .i64 0, .int .i64 0, .int .i64 0, .int .i64 0, .int .i64 0, .int .i64 0, .int .i64 0, .int .i64 0, .int .i64 0, .int .i64 0, .int .i64 0] 27)
  have hT3 := (hb2.cell (p := ⟨0, k, none⟩) hlt).trans hT
  have HB := Lib.hid hb2
  clear hb1 hb2 hT
  go_enter Tryd.func25, Tryd.ntmps25
  go_wp2_with (first
    | fail)
  have C5 : Blk (w.alloc (.cells #[.int .i64 (k : Int), .int .i64 r, .int .i64 i, .int .i64 n, .int .i64 i1, .int .i64 i2, .int .i64 t, .int .i64 ck, .int .i64 a, .int .i64 b, .int .i64 cn, .int .i64 p, .int .i64 q] 27)|>.alloc (.cells #[.int .i64 (k : Int), .int .i64 r, .int .i64 0, .int .i64 0, .int .i64 0, .int .i64 0, .int .i64 0, .int .i64 0, .int .i64 0, .int .i64 0, .int .i64 0, .int .i64 0, .int .i64 0] 27)) (w.alloc (.cells #[.int .i64 (k : Int), .int .i64 r, .int .i64 i, .int .i64 n, .int .i64 i1, .int .i64 i2, .int .i64 t, .int .i64 ck, .int .i64 a, .int .i64 b, .int .i64 cn, .int .i64 p, .int .i64 q] 27)).heap.size [.int .i64 (k : Int), .int .i64 r, .int .i64 0, .int .i64 0, .int .i64 0, .int .i64 0, .int .i64 0, .int .i64 0, .int .i64 0, .int .i64 0, .int .i64 0, .int .i64 0, .int .i64 0] 27 := Blk.new (w.alloc (.cells #[.int .i64 (k : Int), .int .i64 r, .int .i64 i, .int .i64 n, .int .i64 i1, .int .i64 i2, .int .i64 t, .int .i64 ck, .int .i64 a, .int .i64 b, .int .i64 cn, .int .i64 p, .int .i64 q] 27)) #[.int .i64 (k : Int), .int .i64 r, .int .i64 0, .int .i64 0, .int .i64 0, .int .i64 0, .int .i64 0, .int .i64 0, .int .i64 0, .int .i64 0, .int .i64 0, .int .i64 0, .int .i64 0] 27
  rw [show (w.alloc (.cells #[.int .i64 (k : Int), .int .i64 r, .int .i64 i, .int .i64 n, .int .i64 i1, .int .i64 i2, .int .i64 t, .int .i64 ck, .int .i64 a, .int .i64 b, .int .i64 cn, .int .i64 p, .int .i64 q] 27)).heap.size = w.heap.size + 1 by simp] at C5
  exact ret_cell (p := 2) rfl rfl (C5.alloc (.cells #[.int .i64 (k : Int), .int .i64 r, .int .i64 0, .int .i64 0, .int .i64 0, .int .i64 0, .int .i64 0, .int .i64 0, .int .i64 0, .int .i64 0, .int .i64 0, .int .i64 0, .int .i64 0] 27)) Tryd.underlying27 rfl rowS.2 rfl ⟨rfl, (((Below.refl w.heap.size w).alloc (Nat.le_refl _) _).alloc (by simp) _).alloc (by simp; omega) _⟩
set_option maxRecDepth 100000 in
set_option maxHeartbeats 4000000 in
theorem own_2 (k : Nat) (r i n i1 i2 t ck a b cn p q : Int) (w : World) (hk : k < 16) (hT : w.cell? ⟨0, k, none⟩ = some (.int .i64 2)) :
    Calls Tryd.prog 25 #[.agg #[.int .i64 (k : Int), .int .i64 r, .int .i64 i, .int .i64 n, .int .i64 i1, .int .i64 i2, .int .i64 t, .int .i64 ck, .int .i64 a, .int .i64 b, .int .i64 cn, .int .i64 p, .int .i64 q]] w fun e w' => e = .returned (.agg #[.int .i64 (k : Int), .int .i64 0, .int .i64 i, .int .i64 0, .int .i64 0, .int .i64 0, .int .i64 0, .int .i64 0, .int .i64 0, .int .i64 0, .int .i64 0, .int .i64 0, .int .i64 0]) ∧ Below w.heap.size w w' := by
  have hk0 : (0 : Int) ≤ (k : Int) := by omega
  have hk1 : (k : Int) < 16 := by omega
  have hlt : 0 < w.heap.size := block_lt_of_cell hT
  have hb1 := ((Below.refl w.heap.size w).alloc (Nat.le_refl _) (.cells #[.int .i64 (k : Int), .int .i64 r, .int .i64 i, .int .i64 n, .int .i64 i1, .int .i64 i2, .int .i64 t, .int .i64 ck, .int .i64 a, .int .i64 b, .int .i64 cn, .int .i64 p, .int .i64 q] 27)).alloc (by simp) (.cells #[.int .i64 0, .int .i64 0, .int .i64 0, .int .i64 0, .int .i64 0, .int .i64 0, .int .i64 0, .int .i64 0, .int .i64 0, .int .i64 0, .int .i64 0, .int .i64 0, .int .i64 0] 27)
  have hb2 := hb1.alloc (by simp; omega) (.cells #[.int .i64 (k : Int), .int .i64 0, .int .i64 0, .int .i64 0, .int .i64 0, .int .i64 0, .int .i64 0, .int .i64 0, .int .i64 0, .int .i64 0, .int .i64 0, .int .i64 0, .int .i64 0] 27)
  have hT3 := (hb2.cell (p := ⟨0, k, none⟩) hlt).trans hT
  have HB := Lib.hid hb2
  clear hb1 hb2 hT
  go_enter Tryd.func25, Tryd.ntmps25
  go_wp2_with (first
    | fail)
  have C5 : Blk (w.alloc (.cells #[.int .i64 (k : Int), .int .i64 r, .int .i64 i, .int .i64 n, .int .i64 i1, .int .i64 i2, .int .i64 t, .int .i64 ck, .int .i64 a, .int .i64 b, .int .i64 cn, .int .i64 p, .int .i64 q] 27)|>.alloc (.cells #[.int .i64 (k : Int), .int .i64 0, .int .i64 i, .int .i64 0, .int .i64 0, .int .i64 0, .int .i64 0, .int .i64 0, .int .i64 0, .int .i64 0, .int .i64 0, .int .i64 0, .int .i64 0] 27)) (w.alloc (.cells #[.int .i64 (k : Int), .int .i64 r, .int .i64 i, .int .i64 n, .int .i64 i1, .int .i64 i2, .int .i64 t, .int .i64 ck, .int .i64 a, .int .i64 b, .int .i64 cn, .int .i64 p, .int .i64 q] 27)).heap.size [.int .i64 (k : Int), .int .i64 0, .int .i64 i, .int .i64 0, .int .i64 0, .int .i64 0, .int .i64 0, .int .i64 0, .int .i64 0, .int .i64 0, .int .i64 0, .int .i64 0, .int .i64 0] 27 := Blk.new (w.alloc (.cells #[.int .i64 (k : Int), .int .i64 r, .int .i64 i, .int .i64 n, .int .i64 i1, .int .i64 i2, .int .i64 t, .int .i64 ck, .int .i64 a, .int .i64 b, .int .i64 cn, .int .i64 p, .int .i64 q] 27)) #[.int .i64 (k : Int), .int .i64 0, .int .i64 i, .int .i64 0, .int .i64 0, .int .i64 0, .int .i64 0, .int .i64 0, .int .i64 0, .int .i64 0, .int .i64 0, .int .i64 0, .int .i64 0] 27
  rw [show (w.alloc (.cells #[.int .i64 (k : Int), .int .i64 r, .int .i64 i, .int .i64 n, .int .i64 i1, .int .i64 i2, .int .i64 t, .int .i64 ck, .int .i64 a, .int .i64 b, .int .i64 cn, .int .i64 p, .int .i64 q] 27)).heap.size = w.heap.size + 1 by simp] at C5
  exact ret_cell (p := 2) rfl rfl (C5.alloc (.cells #[.int .i64 (k : Int), .int .i64 0, .int .i64 i, .int .i64 0, .int .i64 0, .int .i64 0, .int .i64 0, .int .i64 0, .int .i64 0, .int .i64 0, .int .i64 0, .int .i64 0, .int .i64 0] 27)) Tryd.underlying27 rfl rowS.2 rfl ⟨rfl, (((Below.refl w.heap.size w).alloc (Nat.le_refl _) _).alloc (by simp) _).alloc (by simp; omega) _⟩
set_option maxRecDepth 100000 in
set_option maxHeartbeats 4000000 in
theorem own_3 (k : Nat) (r i n i1 i2 t ck a b cn p q : Int) (w : World) (hk : k < 16) (hT : w.cell? ⟨0, k, none⟩ = some (.int .i64 3)) :
    Calls Tryd.prog 25 #[.agg #[.int .i64 (k : Int), .int .i64 r, .int .i64 i, .int .i64 n, .int .i64 i1, .int .i64 i2, .int .i64 t, .int .i64 ck, .int .i64 a, .int .i64 b, .int .i64 cn, .int .i64 p, .int .i64 q]] w fun e w' => e = .returned (.agg #[.int .i64 (k : Int), .int .i64 r, .int .i64 i, .int .i64 0, .int .i64 0, .int .i64 0, .int .i64 0, .int .i64 0, .int .i64 0, .int .i64 0, .int .i64 0, .int .i64 0, .int .i64 0]) ∧ Below w.heap.size w w' := by
  have hk0 : (0 : Int) ≤ (k : Int) := by omega
  have hk1 : (k : Int) < 16 := by omega
  have hlt : 0 < w.heap.size := block_lt_of_cell hT
  have hb1 := ((Below.refl w.heap.size w).alloc (Nat.le_refl _) (.cells #[.int .i64 (k : Int), .int .i64 r, .int .i64 i, .int .i64 n, .int .i64 i1, .int .i64 i2, .int .i64 t, .int .i64 ck, .int .i64 a, .int .i64 b, .int .i64 cn, .int .i64 p, .int .i64 q] 27)).alloc (by simp) (.cells #[.int .i64 0, .int .i64 0, .int .i64 0, .int .i64 0, .int .i64 0, .int .i64 0, .int .i64 0, .int .i64 0, .int .i64 0, .int .i64 0, .int .i64 0, .int .i64 0, .int .i64 0] 27)
  have hb2 := hb1.alloc (by simp; omega) (.cells #[.int .i64 (k : Int), .int .i64 0, .int .i64 0, .int .i64 0, .int .i64 0, .int .i64 0, .int .i64 0, .int .i64 0, .int .i64 0, .int .i64 0, .int .i64 0, .int .i64 0, .int .i64 0] 27)
  have hT3 := (hb2.cell (p := ⟨0, k, none⟩) hlt).trans hT
  have HB := Lib.hid hb2
  clear hb1 hb2 hT
  go_enter Tryd.func25, Tryd.ntmps25
  go_wp2_with (first
    | fail)
  have C5 : Blk (w.alloc (.cells #[.int .i64 (k : Int), .int .i64 r, .int .i64 i, .int .i64 n, .int .i64 i1, .int .i64 i2, .int .i64 t, .int .i64 ck, .int .i64 a, .int .i64 b, .int .i64 cn, .int .i64 p, .int .i64 q] 27)|>.alloc (.cells #[.int .i64 (k : Int), .int .i64 r, .int .i64 i, .int .i64 0, .int .i64 0, .int .i64 0, .int .i64 0, .int .i64 0, .int .i64 0, .int .i64 0, .int .i64 0, .int .i64 0, .int .i64 0] 27)) (w.alloc (.cells #[.int .i64 (k : Int), .int .i64 r, .int .i64 i, .int .i64 n, .int .i64 i1, .int .i64 i2, .int .i64 t, .int .i64 ck, .int .i64 a, .int .i64 b, .int .i64 cn, .int .i64 p, .int .i64 q] 27)).heap.size [.int .i64 (k : Int), .int .i64 r, .int .i64 i, .int .i64 0, .int .i64 0, .int .i64 0, .int .i64 0, .int .i64 0, .int .i64 0, .int .i64 0, .int .i64 0, .int .i64 0, .int .i64 0] 27 := Blk.new (w.alloc (.cells #[.int .i64 (k : Int), .int .i64 r, .int .i64 i, .int .i64 n, .int .i64 i1, .int .i64 i2, .int .i64 t, .int .i64 ck, .int .i64 a, .int .i64 b, .int .i64 cn, .int .i64 p, .int .i64 q] 27)) #[.int .i64 (k : Int), .int .i64 r, .int .i64 i, .int .i64 0, .int .i64 0, .int .i64 0, .int .i64 0, .int .i64 0, .int .i64 0, .int .i64 0, .int .i64 0, .int .i64 0, .int .i64 0] 27
  rw [show (w.alloc (.cells #[.int .i64 (k : Int), .int .i64 r, .int .i64 i, .int .i64 n, .int .i64 i1, .int .i64 i2, .int .i64 t, .int .i64 ck, .int .i64 a, .int .i64 b, .int .i64 cn, .int .i64 p, .int .i64 q] 27)).heap.size = w.heap.size + 1 by simp] at C5
  exact ret_cell (p := 2) rfl rfl (C5.alloc (.cells #[.int .i64 (k : Int), .int .i64 r, .int .i64 i, .int .i64 0, .int .i64 0, .int .i64 0, .int .i64 0, .int .i64 0, .int .i64 0, .int .i64 0, .int .i64 0, .int .i64 0, .int .i64 0] 27)) Tryd.underlying27 rfl rowS.2 rfl ⟨rfl, (((Below.refl w.heap.size w).alloc (Nat.le_refl _) _).alloc (by simp) _).alloc (by simp; omega) _⟩
set_option maxRecDepth 100000 in
set_option maxHeartbeats 4000000 in
theorem own_4 (k : Nat) (r i n i1 i2 t ck a b cn p q : Int) (w : World) (hk : k < 16) (hT : w.cell? ⟨0, k, none⟩ = some (.int .i64 4)) :
    Calls Tryd.prog 25 #[.agg #[.int .i64 (k : Int), .int .i64 r, .int .i64 i, .int .i64 n, .int .i64 i1, .int .i64 i2, .int .i64 t, .int .i64 ck, .int .i64 a, .int .i64 b, .int .i64 cn, .int .i64 p, .int .i64 q]] w fun e w' => e = .returned (.agg #[.int .i64 (k : Int), .int .i64 0, .int .i64 0, .int .i64 n, .int .i64 0, .int .i64 0, .int .i64 0, .int .i64 0, .int .i64 0, .int .i64 0, .int .i64 0, .int .i64 0, .int .i64 0]) ∧ Below w.heap.size w w' := by
  have hk0 : (0 : Int) ≤ (k : Int) := by omega
  have hk1 : (k : Int) < 16 := by omega
  have hlt : 0 < w.heap.size := block_lt_of_cell hT
  have hb1 := ((Below.refl w.heap.size w).alloc (Nat.le_refl _) (.cells #[.int .i64 (k : Int), .int .i64 r, .int .i64 i, .int .i64 n, .int .i64 i1, .int .i64 i2, .int .i64 t, .int .i64 ck, .int .i64 a, .int .i64 b, .int .i64 cn, .int .i64 p, .int .i64 q] 27)).alloc (by simp) (.cells #[.int .i64 0, .int .i64 0, .int .i64 0, .int .i64 0, .int .i64 0, .int .i64 0, .int .i64 0, .int .i64 0, .int .i64 0, .int .i64 0, .int .i64 0, .int .i64 0, .int .i64 0] 27)
  have hb2 := hb1.alloc (by simp; omega) (.cells #[.int .i64 (k : Int), .int .i64 0, .int .i64 0, .int .i64 0, .int .i64 0, .int .i64 0, .int .i64 0, .int .i64 0, .int .i64 0, .int .i64 0, .int .i64 0, .int .i64 0, .int .i64 0] 27)
  have hT3 := (hb2.cell (p := ⟨0, k, none⟩) hlt).trans hT
  have HB := Lib.hid hb2
  clear hb1 hb2 hT
  go_enter Tryd.func25, Tryd.ntmps25
  go_wp2_with (first
    | fail)
  have C5 : Blk (w.alloc (.cells #[.int .i64 (k : Int), .int .i64 r, .int .i64 i, .int .i64 n, .int .i64 i1, .int .i64 i2, .int .i64 t, .int .i64 ck, .int .i64 a, .int .i64 b, .int .i64 cn, .int .i64 p, .int .i64 q] 27)|>.alloc (.cells #[.int .i64 (k : Int), .int .i64 0, .int .i64 0, .int .i64 n, .int .i64 0, .int .i64 0, .int .i64 0, .int .i64 0, .int .i64 0, .int .i64 0, .int .i64 0, .int .i64 0, .int .i64 0] 27)) (w.alloc (.cells #[.int .i64 (k : Int), .int .i64 r, .int .i64 i, .int .i64 n, .int .i64 i1, .int .i64 i2, .int .i64 t, .int .i64 ck, .int .i64 a, .int .i64 b, .int .i64 cn, .int .i64 p, .int .i64 q] 27)).heap.size [.int .i64 (k : Int), .int .i64 0, .int .i64 0, .int .i64 n, .int .i64 0, .int .i64 0, .int .i64 0, .int .i64 0, .int .i64 0, .int .i64 0, .int .i64 0, .int .i64 0, .int .i64 0] 27 := Blk.new (w.alloc (.cells #[.int .i64 (k : Int), .int .i64 r, .int .i64 i, .int .i64 n, .int .i64 i1, .int .i64 i2, .int .i64 t, .int .i64 ck, .int .i64 a, .int .i64 b, .int .i64 cn, .int .i64 p, .int .i64 q] 27)) #[.int .i64 (k : Int), .int .i64 0, .int .i64 0, .int .i64 n, .int .i64 0, .int .i64 0, .int .i64 0, .int .i64 0, .int .i64 0, .int .i64 0, .int .i64 0, .int .i64 0, .int .i64 0] 27
  rw [show (w.alloc (.cells #[.int .i64 (k : Int), .int .i64 r, .int .i64 i, .int .i64 n, .int .i64 i1, .int .i64 i2, .int .i64 t, .int .i64 ck, .int .i64 a, .int .i64 b, .int .i64 cn, .int .i64 p, .int .i64 q] 27)).heap.size = w.heap.size + 1 by simp] at C5
  exact ret_cell (p := 2) rfl rfl (C5.alloc (.cells #[.int .i64 (k : Int), .int .i64 0, .int .i64 0, .int .i64 n, .int .i64 0, .int .i64 0, .int .i64 0, .int .i64 0, .int .i64 0, .int .i64 0, .int .i64 0, .int .i64 0, .int .i64 0] 27)) Tryd.underlying27 rfl rowS.2 rfl ⟨rfl, (((Below.refl w.heap.size w).alloc (Nat.le_refl _) _).alloc (by simp) _).alloc (by simp; omega) _⟩
set_option maxRecDepth 100000 in
set_option maxHeartbeats 4000000 in
theorem own_5 (k : Nat) (r i n i1 i2 t ck a b cn p q : Int) (w : World) (hk : k < 16) (hT : w.cell? ⟨0, k, none⟩ = some (.int .i64 5)) :
    Calls Tryd.prog 25 #[.agg #[.int .i64 (k : Int), .int .i64 r, .int .i64 i, .int .i64 n, .int .i64 i1, .int .i64 i2, .int .i64 t, .int .i64 ck, .int .i64 a, .int .i64 b, .int .i64 cn, .int .i64 p, .int .i64 q]] w fun e w' => e = .returned (.agg #[.int .i64 (k : Int), .int .i64 r, .int .i64 0, .int .i64 n, .int .i64 0, .int .i64 0, .int .i64 0, .int .i64 0, .int .i64 0, .int .i64 0, .int .i64 0, .int .i64 0, .int .i64 0]) ∧ Below w.heap.size w w' := by
  have hk0 : (0 : Int) ≤ (k : Int) := by omega
  have hk1 : (k : Int) < 16 := by omega
  have hlt : 0 < w.heap.size := block_lt_of_cell hT
  have hb1 := ((Below.refl w.heap.size w).alloc (Nat.le_refl _) (.cells #[.int .i64 (k : Int), .int .i64 r, .int .i64 i, .int .i64 n, .int .i64 i1, .int .i64 i2, .int .i64 t, .int .i64 ck, .int .i64 a, .int .i64 b, .int .i64 cn, .int .i64 p, .int .i64 q] 27)).alloc (by simp) (.cells #[.int .i64 0, .int .i64 0, .int .i64 0, .int .i64 0, .int .i64 0, .int .i64 0, .int .i64 0, .int .i64 0, .int .i64 0, .int .i64 0, .int .i64 0, .int .i64 0, .int .i64 0] 27)
  have hb2 := hb1.alloc (by simp; omega) (.cells #[.int .i64 (k : Int), .int .i64 0, .int .i64 0, .int .i64 0, .int .i64 0, .int .i64 0, .int .i64 0, .int .i64 0, .int .i64 0, .int .i64 0, .int .i64 0, .int .i64 0, .int .i64 0] 27)
  have hT3 := (hb2.cell (p := ⟨0, k, none⟩) hlt).trans hT
  have HB := Lib.hid hb2
  clear hb1 hb2 hT
  go_enter Tryd.func25, Tryd.ntmps25
  go_wp2_with (first
    | fail)
  have C5 : Blk (w.alloc (.cells #[.int .i64 (k : Int), .int .i64 r, .int .i64 i, .int .i64 n, .int .i64 i1, .int .i64 i2, .int .i64 t, .int .i64 ck, .int .i64 a, .int .i64 b, .int .i64 cn, .int .i64 p, .int .i64 q] 27)|>.alloc (.cells #[.int .i64 (k : Int), .int .i64 r, .int .i64 0, .int .i64 n, .int .i64 0, .int .i64 0, .int .i64 0, .int .i64 0, .int .i64 0, .int .i64 0, .int .i64 0, .int .i64 0, .int .i64 0] 27)) (w.alloc (.cells #[.int .i64 (k : Int), .int .i64 r, .int .i64 i, .int .i64 n, .int .i64 i1, .int .i64 i2, .int .i64 t, .int .i64 ck, .int .i64 a, .int .i64 b, .int .i64 cn, .int .i64 p, .int .i64 q] 27)).heap.size [.int .i64 (k : Int), .int .i64 r, .int .i64 0, .int .i64 n, .int .i64 0, .int .i64 0, .int .i64 0, .int .i64 0, .int .i64 0, .int .i64 0, .int .i64 0, .int .i64 0, .int .i64 0] 27 := Blk.new (w.alloc (.cells #[.int .i64 (k : Int), .int .i64 r, .int .i64 i, .int .i64 n, .int .i64 i1, .int .i64 i2, .int .i64 t, .int .i64 ck, .int .i64 a, .int .i64 b, .int .i64 cn, .int .i64 p, .int .i64 q] 27)) #[.int .i64 (k : Int), .int .i64 r, .int .i64 0, .int .i64 n, .int .i64 0, .int .i64 0, .int .i64 0, .int .i64 0, .int .i64 0, .int .i64 0, .int .i64 0, .int .i64 0, .int .i64 0] 27
  rw [show (w.alloc (.cells #[.int .i64 (k : Int), .int .i64 r, .int .i64 i, .int .i64 n, .int .i64 i1, .int .i64 i2, .int .i64 t, .int .i64 ck, .int .i64 a, .int .i64 b, .int .i64 cn, .int .i64 p, .int .i64 q] 27)).heap.size = w.heap.size + 1 by simp] at C5
  exact ret_cell (p := 2) rfl rfl (C5.alloc (.cells #[.int .i64 (k : Int), .int .i64 r, .int .i64 0, .int .i64 n, .int .i64 0, .int .i64 0, .int .i64 0, .int .i64 0, .int .i64 0, .int .i64 0, .int .i64 0, .int .i64 0, .int .i64 0] 27)) Tryd.underlying27 rfl rowS.2 rfl ⟨rfl, (((Below.refl w.heap.size w).alloc (Nat.le_refl _) _).alloc (by simp) _).alloc (by simp; omega) _⟩
set_option maxRecDepth 100000 in
set_option maxHeartbeats 4000000 in
theorem own_6 (k : Nat) (r i n i1 i2 t ck a b cn p q : Int) (w : World) (hk : k < 16) (hT : w.cell? ⟨0, k, none⟩ = some (.int .i64 6)) :
    Calls Tryd.prog 25 #[.agg #[.int .i64 (k : Int), .int .i64 r, .int .i64 i, .int .i64 n, .int .i64 i1, .int .i64 i2, .int .i64 t, .int .i64 ck, .int .i64 a, .int .i64 b, .int .i64 cn, .int .i64 p, .int .i64 q]] w fun e w' => e = .returned (.agg #[.int .i64 (k : Int), .int .i64 0, .int .i64 i, .int .i64 n, .int .i64 0, .int .i64 0, .int .i64 0, .int .i64 0, .int .i64 0, .int .i64 0, .int .i64 0, .int .i64 0, .int .i64 0]) ∧ Below w.heap.size w w' := by
  have hk0 : (0 : Int) ≤ (k : Int) := by omega
  have hk1 : (k : Int) < 16 := by omega
  have hlt : 0 < w.heap.size := block_lt_of_cell hT
  have hb1 := ((Below.refl w.heap.size w).alloc (Nat.le_refl _) (.cells #[.int .i64 (k : Int), .int .i64 r, .int .i64 i, .int .i64 n, .int .i64 i1, .int .i64 i2, .int .i64 t, .int .i64 ck, .int .i64 a, .int .i64 b, .int .i64 cn, .int .i64 p, .int .i64 q] 27)).alloc (by simp) (.cells #[.int .i64 0, .int .i64 0, .int .i64 0, .int .i64 0, .int .i64 0, .int .i64 0, .int .i64 0, .int .i64 0, .int .i64 0, .int .i64 0, .int .i64 0, .int .i64 0, .int .i64 0] 27)
  have hb2 := hb1.alloc (by simp; omega) (.cells #[.int .i64 (k : Int), .int .i64 0, .int .i64 0, .int .i64 0, .int .i64 0, .int .i64 0, .int .i64 0, .int .i64 0, .int .i64 0, .int .i64 0, .int .i64 0, .int .i64 0, .int .i64 0] 27)
  have hT3 := (hb2.cell (p := ⟨0, k, none⟩) hlt).trans hT
  have HB := Lib.hid hb2
  clear hb1 hb2 hT
  go_enter Tryd.func25, Tryd.ntmps25
  go_wp2_with (first
    | fail)
  have C5 : Blk (w.alloc (.cells #[.int .i64 (k : Int), .int .i64 r, .int .i64 i, .int .i64 n, .int .i64 i1, .int .i64 i2, .int .i64 t, .int .i64 ck, .int .i64 a, .int .i64 b, .int .i64 cn, .int .i64 p, .int .i64 q] 27)|>.alloc (.cells #[.int .i64 (k : Int), .int .i64 0, .int .i64 i, .int .i64 n, .int .i64 0, .int .i64 0, .int .i64 0, .int .i64 0, .int .i64 0, .int .i64 0, .int .i64 0, .int .i64 0, .int .i64 0] 27)) (w.alloc (.cells #[.int .i64 (k : Int), .int .i64 r, .int .i64 i, .int .i64 n, .int .i64 i1, .int .i64 i2, .int .i64 t, .int .i64 ck, .int .i64 a, .int .i64 b, .int .i64 cn, .int .i64 p, .int .i64 q] 27)).heap.size [.int .i64 (k : Int), .int .i64 0, .int .i64 i, .int .i64 n, .int .i64 0, .int .i64 0, .int .i64 0, .int .i64 0, .int .i64 0, .int .i64 0, .int .i64 0, .int .i64 0, .int .i64 0] 27 := Blk.new (w.alloc (.cells #[.int .i64 (k : Int), .int .i64 r, .int .i64 i, .int .i64 n, .int .i64 i1, .int .i64 i2, .int .i64 t, .int .i64 ck, .int .i64 a, .int .i64 b, .int .i64 cn, .int .i64 p, .int .i64 q] 27)) #[.int .i64 (k : Int), .int .i64 0, .int .i64 i, .int .i64 n, .int .i64 0, .int .i64 0, .int .i64 0, .int .i64 0, .int .i64 0, .int .i64 0, .int .i64 0, .int .i64 0, .int .i64 0] 27
  rw [show (w.alloc (.cells #[.int .i64 (k : Int), .int .i64 r, .int .i64 i, .int .i64 n, .int .i64 i1, .int .i64 i2, .int .i64 t, .int .i64 ck, .int .i64 a, .int .i64 b, .int .i64 cn, .int .i64 p, .int .i64 q] 27)).heap.size = w.heap.size + 1 by simp] at C5
  exact ret_cell (p := 2) rfl rfl (C5.alloc (.cells #[.int .i64 (k : Int), .int .i64 0, .int .i64 i, .int .i64 n, .int .i64 0, .int .i64 0, .int .i64 0, .int .i64 0, .int .i64 0, .int .i64 0, .int .i64 0, .int .i64 0, .int .i64 0] 27)) Tryd.underlying27 rfl rowS.2 rfl ⟨rfl, (((Below.refl w.heap.size w).alloc (Nat.le_refl _) _).alloc (by simp) _).alloc (by simp; omega) _⟩
set_option maxRecDepth 100000 in
set_option maxHeartbeats 4000000 in
theorem own_9 (k : Nat) (r i n i1 i2 t ck a b cn p q : Int) (w : World) (hk : k < 16) (hT : w.cell? ⟨0, k, none⟩ = some (.int .i64 9)) :
    Calls Tryd.prog 25 #[.agg #[.int .i64 (k : Int), .int .i64 r, .int .i64 i, .int .i64 n, .int .i64 i1, .int .i64 i2, .int .i64 t, .int .i64 ck, .int .i64 a, .int .i64 b, .int .i64 cn, .int .i64 p, .int .i64 q]] w fun e w' => e = .returned (.agg #[.int .i64 (k : Int), .int .i64 r, .int .i64 0, .int .i64 0, .int .i64 0, .int .i64 0, .int .i64 0, .int .i64 ck, .int .i64 a, .int .i64 b, .int .i64 cn, .int .i64 p, .int .i64 q]) ∧ Below w.heap.size w w' := by
  have hk0 : (0 : Int) ≤ (k : Int) := by omega
  have hk1 : (k : Int) < 16 := by omega
  have hlt : 0 < w.heap.size := block_lt_of_cell hT
  have hb1 := ((Below.refl w.heap.size w).alloc (Nat.le_refl _) (.cells #[.int .i64 (k : Int), .int .i64 r, .int .i64 i, .int .i64 n, .int .i64 i1, .int .i64 i2, .int .i64 t, .int .i64 ck, .int .i64 a, .int .i64 b, .int .i64 cn, .int .i64 p, .int .i64 q] 27)).alloc (by simp) (.cells #[.int .i64 0, .int .i64 0, .int .i64 0, .int .i64 0, .int .i64 0, .int .i64 0, .int .i64 0, .int .i64 0, .int .i64 0, .int .i64 0, .int .i64 0, .int .i64 0, .int .i64 0] 27)
  have hb2 := hb1.alloc (by simp; omega) (.cells #[.int .i64 (k : Int), .int .i64 0, .int .i64 0, .int .i64 0, .int .i64 0, .int .i64 0, .int .i64 0, .int .i64 0, .int .i64 0, .int .i64 0, .int .i64 0, .int .i64 0, .int .i64 0] 27)
  have hT3 := (hb2.cell (p := ⟨0, k, none⟩) hlt).trans hT
  have HB := Lib.hid hb2
  clear hb1 hb2 hT
  go_enter Tryd.func25, Tryd.ntmps25
  go_wp2_with (first
    | fail)
  have C5 : Blk (w.alloc (.cells #[.int .i64 (k : Int), .int .i64 r, .int .i64 i, .int .i64 n, .int .i64 i1, .int .i64 i2, .int .i64 t, .int .i64 ck, .int .i64 a, .int .i64 b, .int .i64 cn, .int .i64 p, .int .i64 q] 27)|>.alloc (.cells #[.int .i64 (k : Int), .int .i64 r, .int .i64 0, .int .i64 0, .int .i64 0, .int .i64 0, .int .i64 0, .int .i64 ck, .int .i64 a, .int .i64 b, .int .i64 cn, .int .i64 p, .int .i64 q] 27)) (w.alloc (.cells #[.int .i64 (k : Int), .int .i64 r, .int .i64 i, .int .i64 n, .int .i64 i1, .int .i64 i2, .int .i64 t, .int .i64 ck, .int .i64 a, .int .i64 b, .int .i64 cn, .int .i64 p, .int .i64 q] 27)).heap.size [.int .i64 (k : Int), .int .i64 r, .int .i64 0, .int .i64 0, .int .i64 0, .int .i64 0, .int .i64 0, .int .i64 ck, .int .i64 a, .int .i64 b, .int .i64 cn, .int .i64 p, .int .i64 q] 27 := Blk.new (w.alloc (.cells #[.int .i64 (k : Int), .int .i64 r, .int .i64 i, .int .i64 n, .int .i64 i1, .int .i64 i2, .int .i64 t, .int .i64 ck, .int .i64 a, .int .i64 b, .int .i64 cn, .int .i64 p, .int .i64 q] 27)) #[.int .i64 (k : Int), .int .i64 r, .int .i64 0, .int .i64 0, .int .i64 0, .int .i64 0, .int .i64 0, .int .i64 ck, .int .i64 a, .int .i64 b, .int .i64 cn, .int .i64 p, .int .i64 q] 27
  rw [show (w.alloc (.cells #[.int .i64 (k : Int), .int .i64 r, .int .i64 i, .int .i64 n, .int .i64 i1, .int .i64 i2, .int .i64 t, .int .i64 ck, .int .i64 a, .int .i64 b, .int .i64 cn, .int .i64 p, .int .i64 q] 27)).heap.size = w.heap.size + 1 by simp] at C5
  exact ret_cell (p := 2) rfl rfl (C5.alloc (.cells #[.int .i64 (k : Int), .int .i64 r, .int .i64 0, .int .i64 0, .int .i64 0, .int .i64 0, .int .i64 0, .int .i64 ck, .int .i64 a, .int .i64 b, .int .i64 cn, .int .i64 p, .int .i64 q] 27)) Tryd.underlying27 rfl rowS.2 rfl ⟨rfl, (((Below.refl w.heap.size w).alloc (Nat.le_refl _) _).alloc (by simp) _).alloc (by simp; omega) _⟩
/-- a step with just the fields that its kind has. -/
def ownL (k : Nat) (r i n ck a b cn p q : Int) : List Int :=
  match tabF.getD k 0 with
  | 1 => [(k : Int), r, 0, 0, 0, 0, 0, 0, 0, 0, 0, 0, 0]
  | 2 => [(k : Int), 0, i, 0, 0, 0, 0, 0, 0, 0, 0, 0, 0]
  | 3 => [(k : Int), r, i, 0, 0, 0, 0, 0, 0, 0, 0, 0, 0]
  | 4 => [(k : Int), 0, 0, n, 0, 0, 0, 0, 0, 0, 0, 0, 0]
  | 5 => [(k : Int), r, 0, n, 0, 0, 0, 0, 0, 0, 0, 0, 0]
  | 6 => [(k : Int), 0, i, n, 0, 0, 0, 0, 0, 0, 0, 0, 0]
  | 9 => [(k : Int), r, 0, 0, 0, 0, 0, ck, a, b, cn, p, q]
  | _ => []
theorem own_any (k : Nat) (r i n i1 i2 t ck a b cn p q : Int) (w : World) (hk0 : 1 ≤ k) (hk : k < 16) (hT : TabF w) :
    Calls Tryd.prog 25 #[.agg #[.int .i64 (k : Int), .int .i64 r, .int .i64 i, .int .i64 n, .int .i64 i1, .int .i64 i2, .int .i64 t, .int .i64 ck, .int .i64 a, .int .i64 b, .int .i64 cn, .int .i64 p, .int .i64 q]] w fun e w' => e = .returned (.agg (ints (ownL k r i n ck a b cn p q)).toArray) ∧ Below w.heap.size w w' := by
  have h := hT k hk
  match k, hk0, hk, h with
  | 1, _, hk, h => exact own_9 1 r i n i1 i2 t ck a b cn p q w hk h
  | 2, _, hk, h => exact own_1 2 r i n i1 i2 t ck a b cn p q w hk h
  | 3, _, hk, h => exact own_3 3 r i n i1 i2 t ck a b cn p q w hk h
  | 4, _, hk, h => exact own_4 4 r i n i1 i2 t ck a b cn p q w hk h
  | 5, _, hk, h => exact own_1 5 r i n i1 i2 t ck a b cn p q w hk h
  | 6, _, hk, h => exact own_4 6 r i n i1 i2 t ck a b cn p q w hk h
  | 7, _, hk, h => exact own_2 7 r i n i1 i2 t ck a b cn p q w hk h
  | 8, _, hk, h => exact own_2 8 r i n i1 i2 t ck a b cn p q w hk h
  | 9, _, hk, h => exact own_2 9 r i n i1 i2 t ck a b cn p q w hk h
  | 10, _, hk, h => exact own_6 10 r i n i1 i2 t ck a b cn p q w hk h
  | 11, _, hk, h => exact own_4 11 r i n i1 i2 t ck a b cn p q w hk h
  | 12, _, hk, h => exact own_1 12 r i n i1 i2 t ck a b cn p q w hk h
  | 13, _, hk, h => exact own_1 13 r i n i1 i2 t ck a b cn p q w hk h
  | 14, _, hk, h => exact own_5 14 r i n i1 i2 t ck a b cn p q w hk h
  | 15, _, hk, h => exact own_1 15 r i n i1 i2 t ck a b cn p q w hk h
  | k + 16, _, hk, _ => exact absurd hk (by omega)
end Go.Proofs.YteijahcbfncebaaDoor
