/- Texts: of numbers, of names. -/
import Derived.Test.YtbdonjapcpfgiaaDoorCalls
import Derived.Lib.LaidTab
import Derived.Lib.LaidU8
import Derived.Lib.ItoaLen
import Derived.Test.YtbdonjapcpfgiaaDoorRows
import Derived.Test.YtbdonjapcpfgiaaDoorQt
import Derived.Test.YtbdonjapcpfgiaaDoorChg
import Derived.Test.YtbdonjapcpfgiaaDoorBlk
import Derived.Deep.DeepCutAuto
import Derived.Maps.AppendAt
import Derived.Test.YtbdonjapcpfgiaaDoorRow
import Derived.Test.YtbdonjapcpfgiaaDoorOps
import Derived.RegionTactic
import Derived.BigRegion
import Derived.ChangeAlike
namespace Go.Proofs.YtbdonjapcpfgiaaDoor
set_option linter.unusedVariables false
set_option linter.unusedSimpArgs false
open Go.ChangeShapes Go.WideShapes Go.ChangeAt Go.RowKit
def PTab (w : World) : Prop := Lib.TabIs Tryd.prog w "internal/strconv.uint64pow10" .u64 Lib.pow10Tab
theorem below_itoa (w : World) (k : Nat) (os : Array Obj) : Below w.heap.size w (Sort.grow (w.drewN k) os) := ⟨rfl, rfl, rfl, by simp [Sort.grow, World.drewN], fun j hj => by
  show (w.heap ++ os)[j]? = w.heap[j]?
  rw [Array.getElem?_append_left hj]⟩
theorem PTab.keep {w w' : World} (h : PTab w) (hb : Below w.heap.size w w') : PTab w' := by
  unfold PTab Lib.TabIs World.var? at *
  revert h
  cases hg : Tryd.prog.globalNamed "internal/strconv.uint64pow10" with
  | none => exact fun h => h
  | some g =>
    intro h
    have hlt : g < w.heap.size := by
      rcases Nat.lt_or_ge g w.heap.size with hl | hl
      · exact hl
      · simp [Array.getElem?_eq_none hl] at h
    simpa [hb.block g hlt] using h
/-- a number's text. -/
def itB (n : Int) : ByteArray := ⟨(Lib.itoa n).toArray⟩
theorem itB_size (n : Int) : (itB n).size = (Lib.itoa n).length := by simp [itB, ByteArray.size]
theorem itoa_any (n : Int) (w : World) (hn : fits n = true) (hT : PTab w) : Calls Tryd.prog 29 #[.int .i64 n] w fun e w' => e = .returned (.string (itB n)) ∧ Below w.heap.size w w' := by
  obtain ⟨h1, h2⟩ := (fits_iff n).1 hn
  refine (strconv_Itoa n h1 h2 w hT).mono ?_
  rintro e w' ⟨rfl, k, os, rfl⟩
  exact ⟨rfl, below_itoa _ _ _⟩
theorem itB_small (n : Int) (hn : fits n = true) : (itB n).size ≤ 21 := by
  obtain ⟨h1, h2⟩ := (fits_iff n).1 hn
  rw [itB_size]
  exact Lib.itoa_length_le n h1 h2
/-- an identifier's text. -/
def idB (p q : Int) : ByteArray := itB p ++ ⟨#[46]⟩ ++ itB q
set_option maxHeartbeats 2000000 in
theorem idtext_any (p q : Int) (w : World) (hp : fits p = true) (hq : fits q = true) (hT : PTab w) : Calls Tryd.prog 19 #[.agg #[.int .i64 p, .int .i64 q]] w fun e w' => e = .returned (.string (idB p q)) ∧ Below w.heap.size w w' := by
  have HB := Lib.hid ((Below.refl w.heap.size w).alloc (Nat.le_refl _) (.cells #[.int .i64 p, .int .i64 q] 23))
  have A := Lib.hid (Blk.new w #[.int .i64 p, .int .i64 q] 23)
  have hl := Lib.hid (show w.heap.size < (w.alloc (.cells #[.int .i64 p, .int .i64 q] 23)).heap.size by simp)
  have HP := Lib.hid (hT.keep ((Below.refl w.heap.size w).alloc (Nat.le_refl _) (.cells #[.int .i64 p, .int .i64 q] 23)))
  have CP := Lib.hid (fun w' (hb : Below (w.alloc (.cells #[.int .i64 p, .int .i64 q] 23)).heap.size (w.alloc (.cells #[.int .i64 p, .int .i64 q] 23)) w') => itoa_any p w' hp (HP.out.keep hb))
  have CQ := Lib.hid (fun w' (hb : Below (w.alloc (.cells #[.int .i64 p, .int .i64 q] 23)).heap.size (w.alloc (.cells #[.int .i64 p, .int .i64 q] 23)) w') => itoa_any q w' hq (HP.out.keep hb))
  have s1 := itB_small p hp
  have s2 := itB_small q hq
  go_enter Tryd.func19, Tryd.ntmps19
  go_upto_region 1 with fail
  generalize hg : w.heap.size = g at *
  generalize w.alloc (.cells #[.int .i64 p, .int .i64 q] 23) = w1 at *
  have HG := Lib.hid hg
  clear hg
  refine q_begin (by kernel_rfl) (by kernel_rfl) ?_
  repeat (first
    | go_big_quiet_skip
    | ((with_reducible apply q_int); (· rfl); (· rfl); (· exact Tryd.underlying3); (· exact A.out); (· exact hl.out); (· rfl); (simp only [Act.put, List.setIfInBounds_toArray, List.set_cons_zero, List.set_cons_succ]))
    | ((with_reducible apply q_call 29 (.string (itB p))); (· rfl); (· exact Nat.le_refl _); (· intro w hw; exact CP.out w hw); (· intro w; go_simp); (simp only [Act.put, List.setIfInBounds_toArray, List.set_cons_zero, List.set_cons_succ]))
    | ((with_reducible apply q_call 29 (.string (itB q))); (· rfl); (· exact Nat.le_refl _); (· intro w hw; exact CQ.out w hw); (· intro w; go_simp); (simp only [Act.put, List.setIfInBounds_toArray, List.set_cons_zero, List.set_cons_succ]))
    | (go_big_quiet_want; go_big_quiet_op; (first | go_big_quiet_on | (apply Exists.intro; refine ⟨fun _ _ => rfl, ?_⟩; go_big_quiet_on))))
  refine q_end ?_
  intro w2 hb
  have hg := HG.out
  subst hg
  have HB2 := HB.out.trans (hb.mono HB.out.size)
  go_wp2_with fail
  go_ret
  exact ⟨rfl, HB2⟩
end Go.Proofs.YtbdonjapcpfgiaaDoor
