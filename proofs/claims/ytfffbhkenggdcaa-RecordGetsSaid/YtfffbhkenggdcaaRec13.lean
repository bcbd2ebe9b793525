/- A record of a change read off a reader. -/
import Derived.Test.YtfffbhkenggdcaaRec12
import Derived.Test.YtfffbhkenggdcaaRow
import Derived.Test.YtfffbhkenggdcaaOps
import Derived.Test.YtfffbhkenggdcaaEq
import Derived.Test.YtfffbhkenggdcaaChgOps
import Derived.RegionTactic
import Derived.BigRegion
import Derived.ChangeAlike
namespace Go.Proofs.Ytfffbhkenggdcaa
set_option linter.unusedVariables false
set_option linter.unusedSimpArgs false
open Go.ChangeShapes Go.WideShapes Go.ChangeAt Go.RowKit
/-- a record of a change by its numbers. -/
def recC (l : List Int) : List Value := rec17 1 (l.getD 0 0) (l.getD 1 0) (l.getD 2 0) (l.getD 3 0) (l.getD 4 0) (l.getD 5 0) (l.getD 6 0) (l.getD 7 0) (l.getD 8 0) 0 0 0 0 0 false 0
theorem chgV_len (bs : List UInt8) : (chgV bs).length = 9 := by unfold chgV; split <;> rfl
theorem ints9 {l : List Int} (h : l.length = 9) : (ints l).toArray = #[.int .i64 (l.getD 0 0), .int .i64 (l.getD 1 0), .int .i64 (l.getD 2 0), .int .i64 (l.getD 3 0), .int .i64 (l.getD 4 0), .int .i64 (l.getD 5 0), .int .i64 (l.getD 6 0), .int .i64 (l.getD 7 0), .int .i64 (l.getD 8 0)] := by
  match l, h with
  | [_, _, _, _, _, _, _, _, _], _ => rfl
theorem tk_one {s : List UInt8 × Bool} {m k : Nat} (h : tkN s k = m) (hm : m ≠ 0) : tkB s k = true ∧ tkS s k = (s.1.drop k, true) ∧ numOf (s.1.take k) = m := by
  unfold tkN at h
  by_cases hb : tkB s k = true
  · rw [if_pos hb] at h
    exact ⟨hb, by unfold tkS; rw [if_pos hb], h⟩
  · rw [if_neg hb] at h; exact absurd h.symm hm
set_option maxRecDepth 100000 in
set_option maxHeartbeats 8000000 in
theorem readC_any {B g : Nat} {s : List UInt8 × Bool} {w : World} (h : RdS B w g s) (hB : B ≤ w.heap.size) (hk : tkN s 1 = 1) (hn : s.1.length ≤ 140737488355328) :
    Calls Try.prog 16 #[.pointer (some ⟨g, 0, none⟩)] w fun e w' => e = .returned (.agg (recC (chgV (s.1.drop 1))).toArray) ∧ w.grownBy w' (some g) := by
  have hgB : g < B := by obtain ⟨_, _, _, _, _, _, hh, _⟩ := h; exact hh
  have HR := Lib.hid (h.keep ((Below.refl w.heap.size w).alloc (Nat.le_refl _) (.cells #[.int .i64 0, .int .i64 0, .int .i64 0, .int .i64 0, .int .i64 0, .int .i64 0, .int .i64 0, .int .i64 0, .int .i64 0, .int .i64 0, .int .i64 0, .int .i64 0, .int .i64 0, .int .i64 0, .int .i64 0, .bool false, .int .i64 0] 31)))
  have HG := Lib.hid (grown_of ((Below.refl w.heap.size w).alloc (Nat.le_refl _) (.cells #[.int .i64 0, .int .i64 0, .int .i64 0, .int .i64 0, .int .i64 0, .int .i64 0, .int .i64 0, .int .i64 0, .int .i64 0, .int .i64 0, .int .i64 0, .int .i64 0, .int .i64 0, .int .i64 0, .int .i64 0, .bool false, .int .i64 0] 31)) (some g))
  have HC : Hid (Blk (w.alloc (.cells #[.int .i64 0, .int .i64 0, .int .i64 0, .int .i64 0, .int .i64 0, .int .i64 0, .int .i64 0, .int .i64 0, .int .i64 0, .int .i64 0, .int .i64 0, .int .i64 0, .int .i64 0, .int .i64 0, .int .i64 0, .bool false, .int .i64 0] 31)) w.heap.size [.int .i64 0, .int .i64 0, .int .i64 0, .int .i64 0, .int .i64 0, .int .i64 0, .int .i64 0, .int .i64 0, .int .i64 0, .int .i64 0, .int .i64 0, .int .i64 0, .int .i64 0, .int .i64 0, .int .i64 0, .bool false, .int .i64 0] 31) := Lib.hid (Blk.new w #[.int .i64 0, .int .i64 0, .int .i64 0, .int .i64 0, .int .i64 0, .int .i64 0, .int .i64 0, .int .i64 0, .int .i64 0, .int .i64 0, .int .i64 0, .int .i64 0, .int .i64 0, .int .i64 0, .int .i64 0, .bool false, .int .i64 0] 31)
  clear h
  go_enter Try.func16, Try.ntmps16
  go_upto_region 1 with fail
  generalize w.alloc (.cells #[.int .i64 0, .int .i64 0, .int .i64 0, .int .i64 0, .int .i64 0, .int .i64 0, .int .i64 0, .int .i64 0, .int .i64 0, .int .i64 0, .int .i64 0, .int .i64 0, .int .i64 0, .int .i64 0, .int .i64 0, .bool false, .int .i64 0] 31) = W at *
  go_wp2_with fail
  refine (rds_take HR.out (k := 1) (by decide) (by decide) 1 rfl).mono ?_
  rintro e w2 ⟨rfl, hr2, hg2⟩
  rw [hk]
  have HR2 := Lib.hid hr2
  have HG2 := Lib.hid (HG.out.trans hg2)
  have HC2 := Lib.hid (HC.out.grown hg2 (by omega))
  have hw2 : w.heap.size < w2.heap.size := Nat.lt_of_lt_of_le HC.out.lt hg2.size
  clear hr2 hg2 HR HG HC
  generalize tkB s 1 = b1 at *
  obtain ⟨hb1, hs1, _⟩ := tk_one hk (by decide)
  have hR := HR2.out
  rw [hs1] at hR
  have HN : Hid ((s.1.drop 1).length ≤ 140737488355328) := Lib.hid (by rw [List.length_drop]; omega)
  generalize hbs : s.1.drop 1 = bs at *
  obtain ⟨a, c, hr, hsl, hc1, hc2, _, _⟩ := hR
  generalize hnn : bs.length = n at *
  have LC := left_any g n c a true w2 hr
  rw [if_pos rfl] at LC
  have BC := Lib.hid (bytes_ok g n c n a bs w2 hr hsl (Nat.le_refl _) hc1 hc2 HN.out)
  have HLL := Lib.hid hnn
  have HBS := Lib.hid hbs
  have HL9 := Lib.hid (chgV_len bs)
  have HC9 := HC2
  clear hb1 hs1 hr hsl hc1 hc2 HR2 hnn hbs HN hk hn
  go_wp2_with fail
  refine LC.mono ?_
  rintro e w3 ⟨rfl, rfl⟩
  go_wp2_with fail
  refine BC.out.mono ?_
  rintro e w4 ⟨v, rfl, ho, _, hg4⟩
  obtain ⟨a4, c4, rfl, _, _, hs4⟩ := Sl.own ho
  have HG4 := Lib.hid (HG2.out.trans hg4)
  have HC4 := Lib.hid (HC9.out.grown hg4 (by omega))
  have hs4' : Sl w4 a4 n 1 (bcells bs) := by rw [List.take_of_length_le (by rw [HLL.out]; exact Nat.le_refl _)] at hs4; exact hs4
  have CG := Lib.hid (cget_any a4 n c4 bs w4 hs4')
  clear ho hg4 hs4 hs4' HG2 HC2 HC9 BC LC
  go_wp2_with fail
  refine CG.out.mono ?_
  rintro e w5 ⟨rfl, hb5⟩
  have hw5 : w.heap.size < w5.heap.size := Nat.lt_of_lt_of_le HC4.out.lt hb5.size
  generalize (if okChg bs = true then (0 : Int) else 16) = code at *
  generalize hl : chgV bs = l at *
  have HLC := Lib.hid hl
  have HLE := Lib.hid (ints9 HL9.out)
  have HG5 := Lib.hid ((HG4.out.trans (grown_of hb5 (some g))).trans (grown_of ((Below.refl w5.heap.size w5).alloc (Nat.le_refl _) (.cells (ints l).toArray 27)) (some g)))
  have HC5 := Lib.hid ((HC4.out.keep hb5 HC4.out.lt).alloc (.cells (ints l).toArray 27))
  have HK5 : Hid (Blk (w5.alloc (.cells (ints l).toArray 27)) w5.heap.size (ints l) 27) := Lib.hid (Blk.new w5 (ints l).toArray 27)
  clear hb5 HG4 HC4 CG hl
  go_upto_region 6 with (first
    | ((with_reducible apply cg_store_new (x := l)); (· rfl); (· first | rfl | simp); (· rfl); (· rfl); (· exact HL9); (simp only [Act.put, List.setIfInBounds_toArray, List.set_cons_zero, List.set_cons_succ])))
  generalize hW6 : w5.alloc (.cells (ints l).toArray 27) = W6 at *
  generalize hgk : w5.heap.size = gk at *
  clear hW6 hgk
  have rk : W6.rangeAt gk 0 (ints l) := HK5.out.range 0 _ (by simp)
  have MK : Hid (∀ w, Calls Try.prog 10 #[.agg (ints l).toArray] w fun e w' => e = .returned (.agg (recC l).toArray) ∧ Below w.heap.size w w') := Lib.hid (fun w => by rw [HLE.out]; exact mkC_any (l.getD 0 0) (l.getD 1 0) (l.getD 2 0) (l.getD 3 0) (l.getD 4 0) (l.getD 5 0) (l.getD 6 0) (l.getD 7 0) (l.getD 8 0) w)
  go_wp2_with (first
    | ((with_reducible apply cg_load (x := l)); (· rfl); (· exact rk); (· exact HL9); (simp only [Act.put, List.setIfInBounds_toArray, List.set_cons_zero, List.set_cons_succ])))
  refine (MK.out _).mono ?_
  rintro e w6 ⟨rfl, hb6⟩
  have HV : Hid ((recC l).length = 17 ∧ ∀ u ∈ recC l, u.oneCell' = true) := rec17_ok 1 (l.getD 0 0) (l.getD 1 0) (l.getD 2 0) (l.getD 3 0) (l.getD 4 0) (l.getD 5 0) (l.getD 6 0) (l.getD 7 0) (l.getD 8 0) 0 0 0 0 0 false 0
  have HGL := Lib.hid (HG5.out.trans (grown_of hb6 (some g)))
  have HCL := Lib.hid (HC5.out.keep hb6 HC5.out.lt)
  clear hb6 HG5 HC5 rk MK
  have C5 := Lib.hid (HCL.out.setAll (recC l) rfl)
  have G5 := Lib.hid (grown_sets (Nat.le_refl _) (recC l) 0 _ HGL.out)
  have HRS := Lib.hid (show (recC l).length = 17 from rfl)
  generalize hRL : recC l = RL at *
  have HRL2 := Lib.hid hRL
  clear hRL
  go_wp2_with (first
    | ((with_reducible apply rc_store); (· rfl); (· rfl); (· exact HCL.out); (· rfl); (· exact HV); (simp only [Act.put, List.setIfInBounds_toArray, List.set_cons_zero, List.set_cons_succ]); (generalize w6.setCells w.heap.size 0 RL = WW at *)))
  refine ret_cell (p := 2) rfl rfl C5.out Try.underlying31 rfl (by rw [rc_size, HRS.out]) rfl ⟨by rw [HBS.out, HLC.out, HRL2.out], G5.out⟩
end Go.Proofs.Ytfffbhkenggdcaa
