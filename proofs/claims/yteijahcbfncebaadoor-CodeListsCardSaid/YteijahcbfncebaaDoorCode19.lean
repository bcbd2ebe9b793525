/- A step read that may not be. -/
import Derived.Test.YteijahcbfncebaaDoorCode18
import Derived.Deep.DeepCutAuto
import Derived.RegionTactic
import Derived.BigRegion
import Derived.ChangeAlike
namespace Go.Proofs.YteijahcbfncebaaDoor
set_option linter.unusedVariables false
set_option linter.unusedSimpArgs false
open Go.ChangeShapes Go.WideShapes Go.ChangeAt Go.RowKit
set_option maxRecDepth 100000 in
set_option maxHeartbeats 4000000 in
theorem read31_no (a : Option Addr) (c : Nat) (bs : List UInt8) (w : World) (h : Sl w a 21 1 (bcells bs)) {code : Int} (hc : code ≠ 0) (HC : Hid (∀ w', Below w.heap.size w w' → Calls Tryd.prog 10 #[.agg (ints (decS bs)).toArray] w' fun e w'' => e = .returned (.int .i64 code) ∧ Below w'.heap.size w' w'')) :
    Calls Tryd.prog 11 #[.slice a 21 c] w fun e w' => e = .returned (.tuple #[.agg (ints ([0, 0, 0, 0, 0, 0, 0, 0, 0, 0, 0, 0, 0])).toArray, .int .i64 code]) ∧ Below w.heap.size w w' := by
  have hcb : (code != 0) = true := by simpa using hc
  clear hc
  have HD := Lib.hid (fun w' (hb : Below w.heap.size w w') => decode_any a 21 c bs w' (h.keep hb) (by decide))
  have LY : Hid ((decS bs).length = 13) := Lib.hid (by simp [decS])
  have ER : Hid ([0, 0, 0, 0, 0, 0, 0, 0, 0, 0, 0, 0, 0] = [0, 0, 0, 0, 0, 0, 0, 0, 0, 0, 0, 0, 0]) := Lib.hid rfl
  generalize hY : decS bs = Y at *
  have HY := Lib.hid hY
  clear hY
  have A1 : Hid (Blk (w.alloc (.cells #[.int .i64 0, .int .i64 0, .int .i64 0, .int .i64 0, .int .i64 0, .int .i64 0, .int .i64 0, .int .i64 0, .int .i64 0, .int .i64 0, .int .i64 0, .int .i64 0, .int .i64 0] 27)) w.heap.size [.int .i64 0, .int .i64 0, .int .i64 0, .int .i64 0, .int .i64 0, .int .i64 0, .int .i64 0, .int .i64 0, .int .i64 0, .int .i64 0, .int .i64 0, .int .i64 0, .int .i64 0] 27) := Lib.hid (Blk.new w #[.int .i64 0, .int .i64 0, .int .i64 0, .int .i64 0, .int .i64 0, .int .i64 0, .int .i64 0, .int .i64 0, .int .i64 0, .int .i64 0, .int .i64 0, .int .i64 0, .int .i64 0] 27)
  have B1 := Lib.hid ((Below.refl w.heap.size w).alloc (Nat.le_refl _) (.cells #[.int .i64 0, .int .i64 0, .int .i64 0, .int .i64 0, .int .i64 0, .int .i64 0, .int .i64 0, .int .i64 0, .int .i64 0, .int .i64 0, .int .i64 0, .int .i64 0, .int .i64 0] 27))
  clear h ER
  go_enter Tryd.func11, Tryd.ntmps11
  go_upto_region 3 with fail
  generalize w.alloc (.cells #[.int .i64 0, .int .i64 0, .int .i64 0, .int .i64 0, .int .i64 0, .int .i64 0, .int .i64 0, .int .i64 0, .int .i64 0, .int .i64 0, .int .i64 0, .int .i64 0, .int .i64 0] 27) = W at *
  go_wp2_with fail
  refine (HD.out W B1.out).mono ?_
  rintro e w1 ⟨rfl, hb1⟩
  have TY : RowT 27 (ints Y).length := by rw [ints_len, LY.out]; exact rowS
  have OY : Hid (∀ u ∈ ints Y, u.oneCell' = true) := Lib.hid fun u hu => ints_one hu
  have LZ : Hid ((ints Y).length = 13) := Lib.hid (by rw [ints_len, LY.out])
  have A2 := Lib.hid ((A1.out.keep hb1 A1.out.lt).alloc (.cells (ints Y).toArray 27))
  have B2 := Lib.hid ((B1.out.trans (hb1.mono B1.out.size)).alloc (Nat.le_trans B1.out.size hb1.size) (.cells (ints Y).toArray 27))
  have V2 : Hid (Blk (w1.alloc (.cells (ints Y).toArray 27)) w1.heap.size (ints Y) 27) := Lib.hid (Blk.new w1 (ints Y).toArray 27)
  clear hb1 A1 B1
  go_upto_region 4 with (first
    | ((with_reducible refine st_row_new (cs := ints Y) TY OY.out ?_ ?_ ?_ ?_); (· first | rfl | simp); (· rfl); (· exact LZ.out.symm); (simp only [Act.put, List.setIfInBounds_toArray, List.set_cons_zero, List.set_cons_succ])))
  generalize hw2 : w1.alloc (.cells (ints Y).toArray 27) = w2 at *
  generalize hgv : w1.heap.size = gv at *
  clear hw2 hgv
  have ry : w2.rangeAt gv 0 (ints Y) := V2.out.range 0 _ (by simp)
  go_wp2_with (first
    | ((with_reducible refine ld_row ry TY ?_ ?_ ?_); (· rfl); (· rfl); (simp only [Act.put, List.setIfInBounds_toArray, List.set_cons_zero, List.set_cons_succ])))
  refine (HC.out w2 B2.out).mono ?_
  rintro e w3 ⟨rfl, hb3⟩
  have A3 := Lib.hid (A2.out.keep hb3 A2.out.lt)
  have V3 := Lib.hid (V2.out.keep hb3 V2.out.lt)
  have B3 := Lib.hid (B2.out.trans (hb3.mono B2.out.size))
  clear hb3 ry A2 V2 B2 HC HD
  have TZ : RowT 27 (ints [0, 0, 0, 0, 0, 0, 0, 0, 0, 0, 0, 0, 0]).length := rowS
  have OZ : Hid (∀ u ∈ ints [0, 0, 0, 0, 0, 0, 0, 0, 0, 0, 0, 0, 0], u.oneCell' = true) := Lib.hid fun u hu => ints_one hu
  have HLF : Hid (([.int .i64 0, .int .i64 0, .int .i64 0, .int .i64 0, .int .i64 0, .int .i64 0, .int .i64 0, .int .i64 0, .int .i64 0, .int .i64 0, .int .i64 0, .int .i64 0, .int .i64 0] : List Value).length = (ints [0, 0, 0, 0, 0, 0, 0, 0, 0, 0, 0, 0, 0]).length) := Lib.hid (by simp [ints_len])
  have HCF := Lib.hid (A3.out.setAll (ints [0, 0, 0, 0, 0, 0, 0, 0, 0, 0, 0, 0, 0]) HLF.out.symm)
  have HBF := Lib.hid (below_setsS (Nat.le_refl w.heap.size) (ints [0, 0, 0, 0, 0, 0, 0, 0, 0, 0, 0, 0, 0]) 0 _ B3.out)
  go_wp2_with (first
    | ((with_reducible refine st_row (cs := ints [0, 0, 0, 0, 0, 0, 0, 0, 0, 0, 0, 0, 0]) A3.out HLF.out TZ OZ.out ?_ ?_ ?_); (· rfl); (· first | rfl | (show _ = Value.agg (ints [0, 0, 0, 0, 0, 0, 0, 0, 0, 0, 0, 0, 0]).toArray; rfl)); (simp only [Act.put, List.setIfInBounds_toArray, List.set_cons_zero, List.set_cons_succ]); (generalize w3.setCells w.heap.size 0 (ints [0, 0, 0, 0, 0, 0, 0, 0, 0, 0, 0, 0, 0]) = yf at *)))
  refine ret_cell_tmp (p := 2) (q := 3) (cs := ints [0, 0, 0, 0, 0, 0, 0, 0, 0, 0, 0, 0, 0]) (v := .int .i64 code) rfl rfl rfl HCF.out Tryd.underlying27 rfl TZ.2 rfl ?_
  exact ⟨rfl, HBF.out⟩
set_option maxRecDepth 100000 in
set_option maxHeartbeats 4000000 in
theorem read31_len (a : Option Addr) (n c : Nat) (w : World) (hn : n ≠ 21) :
    Calls Tryd.prog 11 #[.slice a n c] w fun e w' => e = .returned (.tuple #[.agg (ints [0, 0, 0, 0, 0, 0, 0, 0, 0, 0, 0, 0, 0]).toArray, .int .i64 16]) ∧ Below w.heap.size w w' := by
  have h6 : ¬ (n : Int) = 21 := by omega
  have hb : Below w.heap.size w (w.alloc (.cells #[.int .i64 0, .int .i64 0, .int .i64 0, .int .i64 0, .int .i64 0, .int .i64 0, .int .i64 0, .int .i64 0, .int .i64 0, .int .i64 0, .int .i64 0, .int .i64 0, .int .i64 0] 27)) := (Below.refl w.heap.size w).alloc (Nat.le_refl _) _
  have HC : Blk (w.alloc (.cells #[.int .i64 0, .int .i64 0, .int .i64 0, .int .i64 0, .int .i64 0, .int .i64 0, .int .i64 0, .int .i64 0, .int .i64 0, .int .i64 0, .int .i64 0, .int .i64 0, .int .i64 0] 27)) w.heap.size (ints [0, 0, 0, 0, 0, 0, 0, 0, 0, 0, 0, 0, 0]) 27 := Blk.new w #[.int .i64 0, .int .i64 0, .int .i64 0, .int .i64 0, .int .i64 0, .int .i64 0, .int .i64 0, .int .i64 0, .int .i64 0, .int .i64 0, .int .i64 0, .int .i64 0, .int .i64 0] 27
  have HH := Lib.hid (And.intro hb HC)
  clear hb HC
  go_enter Tryd.func11, Tryd.ntmps11
  go_wp2_with fail
  refine ret_cell_tmp (p := 2) (q := 3) (cs := ints [0, 0, 0, 0, 0, 0, 0, 0, 0, 0, 0, 0, 0]) (v := .int .i64 16) rfl rfl rfl HH.out.2 Tryd.underlying27 rfl rowS.2 rfl ?_
  exact ⟨rfl, HH.out.1⟩
end Go.Proofs.YteijahcbfncebaaDoor
