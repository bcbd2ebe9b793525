/- A request's name as octets; the fields of a record of a request. -/
import Derived.Test.YtfffbhkenggdcaaRec8
import Derived.Test.YtfffbhkenggdcaaRow
import Derived.Test.YtfffbhkenggdcaaOps
import Derived.Test.YtfffbhkenggdcaaEq
import Derived.Test.YtfffbhkenggdcaaChgOps
import Derived.RegionTactic
import Derived.BigRegion
import Derived.ChangeAlike
namespace Go.Proofs.Ytfffbhkenggdcaa
set_option linter.unusedVariables false
set_option linter.unusedSimpArgs false
open Go.ChangeShapes Go.WideShapes Go.ChangeAt Go.RowKit
/-- a request's name as octets: by its numbers. -/
def keyOcts (k1 k2 ko : Int) (ku : Bool) : List UInt8 := idOcts k1 k2 ++ beOf (u64 ko) 1 ++ [if ku = true then 1 else 0]
theorem one_sl (w : World) (b : UInt8) : Sl (w.alloc (.cells #[.int .u8 (b.toNat : Int)] 5)) (some ⟨w.heap.size, 0, none⟩) 1 1 (bcells [b]) := lit_sl w (bcells [b]) (by simp [bcells])
set_option maxRecDepth 100000 in
set_option maxHeartbeats 4000000 in
theorem putkey_any (a : Option Addr) (n c : Nat) (xs : List UInt8) (k1 k2 ko : Int) (ku : Bool) (w : World) (h : Sl w a n 1 (bcells xs)) (hn : n + 64 ≤ 140737488355328) :
    Calls Try.prog 24 #[.slice a n c, .agg #[.int .i64 k1, .int .i64 k2, .int .i64 ko, .bool ku]] w fun e w' => ∃ v, e = .returned v ∧ w'.ownsRow w.heap.size 5 1 v (n + 5) (bcells (xs ++ keyOcts k1 k2 ko ku)) ∧ Below w.heap.size w w' := by
  obtain ⟨i0, hi, hz0, hz1, hz2⟩ := info_parts u8_info
  have HA := Lib.hid (Blk.new w #[.int .i64 k1, .int .i64 k2, .int .i64 ko, .bool ku] 29)
  have HB := Lib.hid ((Below.refl w.heap.size w).alloc (Nat.le_refl _) (.cells #[.int .i64 k1, .int .i64 k2, .int .i64 ko, .bool ku] 29))
  have HS := Lib.hid (h.keep HB.out)
  have HW1 := Lib.hid (u64_wrap ko)
  have M1 := Lib.hid (u64_lt ko)
  clear h
  go_enter Try.func24, Try.ntmps24
  go_upto_region 1 with fail
  have hz : w.heap.size < (w.alloc (.cells #[.int .i64 k1, .int .i64 k2, .int .i64 ko, .bool ku] 29)).heap.size := by simp
  generalize w.alloc (.cells #[.int .i64 k1, .int .i64 k2, .int .i64 ko, .bool ku] 29) = W at *
  refine held_begin (fun w' => Below W.heap.size W w') 9 [false, false, false, false, false, false, false, false, false] (by kernel_rfl) rfl (by rfl) ?_
  have hHeld : Below W.heap.size W W.drew := ⟨rfl, rfl, rfl, Nat.le_refl _, fun _ _ => rfl⟩
  refine held_take (v := ?_) 0 5 [true, false, false, false, false, false, false, false, false] rfl (by rfl) (by rfl) (by kernel_rfl) (by kernel_rfl) (by kernel_rfl) (by rfl) (fun _ _ _ h => h) ?_ hHeld ?_
  rotate_left
  · intro w hSw; go_simp <;> with_reducible rfl
  simp only [Act.put, List.setIfInBounds_toArray, List.set_cons_zero, List.set_cons_succ]
  refine held_take (v := ?_) 1 6 [true, true, false, false, false, false, false, false, false] rfl (by rfl) (by rfl) (by kernel_rfl) (by kernel_rfl) (by kernel_rfl) (by rfl) (fun _ _ _ h => h) ?_ hHeld ?_
  rotate_left
  · intro w hSw; go_simp <;> with_reducible rfl
  simp only [Act.put, List.setIfInBounds_toArray, List.set_cons_zero, List.set_cons_succ]
  refine held_take 2 7 [true, true, true, false, false, false, false, false, false] rfl (by rfl) (by rfl) (by kernel_rfl) (by kernel_rfl) (by kernel_rfl) (by rfl) (fun _ _ _ h => h) (fun w' h => run_op_load rfl rfl (((HA.out.keep h HA.out.lt)).range 0 [.int .i64 k1, .int .i64 k2] rfl) Try.underlying25 rfl (by kernel_rfl)) hHeld ?_
  simp only [Act.put, List.setIfInBounds_toArray, List.set_cons_zero, List.set_cons_succ]
  refine held_take (v := ?_) 4 9 [true, true, true, false, true, false, false, false, false] rfl (by rfl) (by rfl) (by kernel_rfl) (by kernel_rfl) (by kernel_rfl) (by rfl) (fun _ _ _ h => h) ?_ hHeld ?_
  rotate_left
  · intro w hSw; go_simp <;> with_reducible rfl
  simp only [Act.put, List.setIfInBounds_toArray, List.set_cons_zero, List.set_cons_succ]
  refine held_take (v := .int .i64 ko) 5 10 [true, true, true, false, true, true, false, false, false] rfl (by rfl) (by rfl) (by kernel_rfl) (by kernel_rfl) (by kernel_rfl) (by rfl) (fun _ _ _ h => h) (fun w' h => run_op_one rfl rfl Try.underlying3 rfl ((HA.out.keep h HA.out.lt).cell 2)) hHeld ?_
  simp only [Act.put, List.setIfInBounds_toArray, List.set_cons_zero, List.set_cons_succ]
  refine held_take (v := ?_) 6 11 [true, true, true, false, true, true, true, false, false] rfl (by rfl) (by rfl) (by kernel_rfl) (by kernel_rfl) (by kernel_rfl) (by rfl) (fun _ _ _ h => h) ?_ hHeld ?_
  rotate_left
  · intro w hSw; go_simp <;> with_reducible rfl
  simp only [Act.put, List.setIfInBounds_toArray, List.set_cons_zero, List.set_cons_succ]
  rw [HW1.out]
  have P1 := putid_any a n c xs k1 k2 _ (HS.out.keep hHeld) (by omega)
  refine held_call 3 8 [true, true, true, true, true, true, true, false, false] (by kernel_rfl) rfl (by rfl) (by rfl) (by rfl) (by go_simp) ((P1).mono ?_)
  rintro e w1 ⟨v1, rfl, ho1, hb1⟩
  refine ⟨_, rfl, hHeld.trans (hb1.mono hHeld.size), fun hHeld => ?_⟩
  simp only [Act.put, List.setIfInBounds_toArray, List.set_cons_zero, List.set_cons_succ]
  clear P1
  obtain ⟨a1, c1, rfl, _, _, hs1⟩ := Sl.own ho1
  have P2 := put_ok a1 (n + 3) c1 _ (u64 ko) 1 _ hs1 (fun u hu => bcells_one hu) (by omega) (by decide) (by decide) M1.out
  rw [show (((1 : Nat) : Int)) = 1 from rfl] at P2
  refine held_call 7 12 [true, true, true, true, true, true, true, true, false] (by kernel_rfl) rfl (by rfl) (by rfl) (by rfl) (by go_simp) ((P2).mono ?_)
  rintro e w2 ⟨v2, rfl, ho2, hb2⟩
  refine ⟨_, rfl, hHeld.trans (hb2.mono hHeld.size), fun hHeld => ?_⟩
  simp only [Act.put, List.setIfInBounds_toArray, List.set_cons_zero, List.set_cons_succ]
  clear P2
  refine held_take (v := ?_) 8 0 [true, true, true, true, true, true, true, true, true] rfl (by rfl) (by rfl) (by kernel_rfl) (by kernel_rfl) (by kernel_rfl) (by rfl) (fun _ _ _ h => h) ?_ hHeld ?_
  rotate_left
  · intro w hSw; go_simp <;> with_reducible rfl
  simp only [Act.put, List.setIfInBounds_toArray, List.set_cons_zero, List.set_cons_succ]
  refine held_done (by kernel_rfl) ?_
  rw [← bcells_add] at ho2
  obtain ⟨a2, c2, rfl, _, _, hs2⟩ := Sl.own ho2
  have HO := Lib.hid (own_base ho2 (show w.heap.size ≤ w1.heap.size from Nat.le_trans (Nat.le_of_lt hz) hb1.size))
  have HBZ := Lib.hid (HB.out.trans (hHeld.mono (Nat.le_of_lt hz)))
  have cu : w2.cell? ⟨w.heap.size, 3, none⟩ = some (.bool ku) := (HA.out.keep hHeld HA.out.lt).cell 3
  have HD0 := Lib.hid (own_stay HO.out ((Below.refl _ _).alloc (Nat.le_refl _) (.cells #[.int .u8 (((1 : UInt8).toNat : Nat) : Int)] 5)))
  have HE0 := Lib.hid (own_stay HO.out ((Below.refl _ _).alloc (Nat.le_refl _) (.cells #[.int .u8 (((0 : UInt8).toNat : Nat) : Int)] 5)))
  have HL1 := Lib.hid (one_sl w2 1)
  have HL0 := Lib.hid (one_sl w2 0)
  have HB1 := Lib.hid (HBZ.out.alloc HBZ.out.size (.cells #[.int .u8 (((1 : UInt8).toNat : Nat) : Int)] 5))
  have HB2 := Lib.hid (HBZ.out.alloc HBZ.out.size (.cells #[.int .u8 (((0 : UInt8).toNat : Nat) : Int)] 5))
  have hq1 := HB1.out.size
  have hq0 := HB2.out.size
  clear hHeld hb1 hb2 ho1 ho2 hs1 hs2
  rcases ku with _ | _
  · go_wp2_with (first
      | (at_builtin; refine app_any _ _ 22 5 i0 (.int .u8 0) 1 1 Try.underlying22 hi hz0 hz1 hz2 rfl (by decide) rfl rfl rfl HE0.out rfl HL0.out (fun h => by cases h) (fun u hu => bcells_one hu) ?d10 ?d20 hq0 ?_))
    case d10 => simp only [maxLen]; omega
    case d20 => omega
    intro v3 w3 ho hb
    rw [← bcells_add] at ho
    obtain ⟨a3, c3, rfl, _, _, _⟩ := Sl.own ho
    have HOX := Lib.hid ho
    have HBX := Lib.hid (HB2.out.trans hb)
    clear ho hb
    go_wp2_with fail
    go_ret
    exact ⟨_, rfl, by have := HOX.out; unfold keyOcts; rw [List.append_assoc, List.append_assoc] at this; rw [List.append_assoc]; exact this, HBX.out⟩
  · go_wp2_with (first
      | (at_builtin; refine app_any _ _ 22 5 i0 (.int .u8 0) 1 1 Try.underlying22 hi hz0 hz1 hz2 rfl (by decide) rfl rfl rfl HD0.out rfl HL1.out (fun h => by cases h) (fun u hu => bcells_one hu) ?d11 ?d21 hq1 ?_))
    case d11 => simp only [maxLen]; omega
    case d21 => omega
    intro v3 w3 ho hb
    rw [← bcells_add] at ho
    obtain ⟨a3, c3, rfl, _, _, _⟩ := Sl.own ho
    have HOX := Lib.hid ho
    have HBX := Lib.hid (HB1.out.trans hb)
    clear ho hb
    go_wp2_with fail
    go_ret
    exact ⟨_, rfl, by have := HOX.out; unfold keyOcts; rw [List.append_assoc, List.append_assoc] at this; rw [List.append_assoc]; exact this, HBX.out⟩
end Go.Proofs.Ytfffbhkenggdcaa
