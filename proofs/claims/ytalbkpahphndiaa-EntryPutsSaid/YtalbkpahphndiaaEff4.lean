/- An effect's octets of a wrong length; an entry's flags. -/
import Derived.Test.YtalbkpahphndiaaEff3
import Derived.Test.YtalbkpahphndiaaEnt
import Derived.Test.YtalbkpahphndiaaRow
import Derived.Test.YtalbkpahphndiaaOps
import Derived.RegionTactic
import Derived.BigRegion
import Derived.ChangeAlike
namespace Go.Proofs.Ytalbkpahphndiaa
set_option linter.unusedVariables false
set_option linter.unusedSimpArgs false
open Go.ChangeShapes Go.WideShapes Go.ChangeAt Go.RowKit
set_option maxRecDepth 100000 in
set_option maxHeartbeats 4000000 in
theorem eget_len (a : Option Addr) (n c : Nat) (w : World) (hn : n ≠ 13) :
    Calls Try.prog 63 #[.slice a n c] w fun e w' => e = .returned (.tuple #[.agg #[.int .i64 0, .int .i64 0, .int .i64 0, .int .i64 0, .int .i64 0], .int .i64 16]) ∧ Below w.heap.size w w' := by
  have HB := Lib.hid ((Below.refl w.heap.size w).alloc (Nat.le_refl _) (.cells #[.int .i64 0, .int .i64 0, .int .i64 0, .int .i64 0, .int .i64 0] 47))
  have AZ := Lib.hid (Blk.new w #[.int .i64 0, .int .i64 0, .int .i64 0, .int .i64 0, .int .i64 0] 47)
  have hn' : ¬ (n : Int) = 13 := by omega
  clear hn
  go_enter Try.func63, Try.ntmps63
  go_upto_region 1 with fail
  generalize w.alloc (.cells #[.int .i64 0, .int .i64 0, .int .i64 0, .int .i64 0, .int .i64 0] 47) = W at *
  go_upto_region 2 with fail
  have C5 := Lib.hid (AZ.out.setAll (ints [0, 0, 0, 0, 0]) rfl)
  have HBZ := Lib.hid (below_sets (Nat.le_refl _) (ints [0, 0, 0, 0, 0]) 0 _ HB.out)
  go_wp2_with (first
    | ((with_reducible apply ef_store0); (· rfl); (· rfl); (· exact AZ.out); (· rfl); (simp only [Act.put, List.setIfInBounds_toArray, List.set_cons_zero, List.set_cons_succ]); (generalize W.setCells w.heap.size 0 (ints [0, 0, 0, 0, 0]) = WW at *)))
  refine ret_cell_tmp (p := 2) (q := 3) rfl rfl rfl C5.out Try.underlying47 rfl (by rw [ef_size]; rfl) rfl ⟨rfl, HBZ.out⟩
/-- an entry's flags. -/
def flagsOf (ak gn : Bool) : Nat := (if ak then 1 else 0) + (if gn then 2 else 0)
set_option maxHeartbeats 2000000 in
theorem flags_any (o k a n p q s l : Int) (ak gn : Bool) (b bl : Int) (w : World) : Calls Try.prog 57 #[.agg #[.int .i64 o, .int .i64 k, .int .i64 a, .int .i64 n, .int .i64 p, .int .i64 q, .int .i64 s, .int .i64 l, .bool ak, .bool gn, .int .i64 b, .int .i64 bl]] w fun e w' => e = .returned (.int .u8 (flagsOf ak gn : Nat)) ∧ Below w.heap.size w w' := by
  have A := Blk.new w #[.int .i64 o, .int .i64 k, .int .i64 a, .int .i64 n, .int .i64 p, .int .i64 q, .int .i64 s, .int .i64 l, .bool ak, .bool gn, .int .i64 b, .int .i64 bl] 49
  have HB := Lib.hid ((Below.refl w.heap.size w).alloc (Nat.le_refl _) (.cells #[.int .i64 o, .int .i64 k, .int .i64 a, .int .i64 n, .int .i64 p, .int .i64 q, .int .i64 s, .int .i64 l, .bool ak, .bool gn, .int .i64 b, .int .i64 bl] 49))
  go_enter Try.func57, Try.ntmps57
  go_upto_region 1 with fail
  generalize w.alloc (.cells #[.int .i64 o, .int .i64 k, .int .i64 a, .int .i64 n, .int .i64 p, .int .i64 q, .int .i64 s, .int .i64 l, .bool ak, .bool gn, .int .i64 b, .int .i64 bl] 49) = W at *
  have c0 : W.cell? ⟨w.heap.size, 0, none⟩ = some (.int .i64 o) := A.cell 0
  have c1 : W.cell? ⟨w.heap.size, 1, none⟩ = some (.int .i64 k) := A.cell 1
  have c2 : W.cell? ⟨w.heap.size, 2, none⟩ = some (.int .i64 a) := A.cell 2
  have c3 : W.cell? ⟨w.heap.size, 3, none⟩ = some (.int .i64 n) := A.cell 3
  have c4 : W.cell? ⟨w.heap.size, 4, none⟩ = some (.int .i64 p) := A.cell 4
  have c5 : W.cell? ⟨w.heap.size, 5, none⟩ = some (.int .i64 q) := A.cell 5
  have c6 : W.cell? ⟨w.heap.size, 6, none⟩ = some (.int .i64 s) := A.cell 6
  have c7 : W.cell? ⟨w.heap.size, 7, none⟩ = some (.int .i64 l) := A.cell 7
  have c8 : W.cell? ⟨w.heap.size, 8, none⟩ = some (.bool ak) := A.cell 8
  have c9 : W.cell? ⟨w.heap.size, 9, none⟩ = some (.bool gn) := A.cell 9
  have c10 : W.cell? ⟨w.heap.size, 10, none⟩ = some (.int .i64 b) := A.cell 10
  have c11 : W.cell? ⟨w.heap.size, 11, none⟩ = some (.int .i64 bl) := A.cell 11
  clear A
  cases ak <;> cases gn
  all_goals (go_wp2_with fail; go_ret; exact ⟨rfl, HB.out⟩)
end Go.Proofs.Ytalbkpahphndiaa
