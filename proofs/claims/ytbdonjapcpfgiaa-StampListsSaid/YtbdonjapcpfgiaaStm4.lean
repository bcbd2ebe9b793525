/- Lists of changes: the greatest time. -/
import Derived.Test.YtbdonjapcpfgiaaStm3
import Derived.Lib.MinMax
import Derived.Deep.DeepCutAuto
import Derived.Maps.AppendAt
import Derived.Test.YtbdonjapcpfgiaaRow
import Derived.Test.YtbdonjapcpfgiaaOps
import Derived.RegionTactic
import Derived.BigRegion
import Derived.ChangeAlike
namespace Go.Proofs.Ytbdonjapcpfgiaa
set_option linter.unusedVariables false
set_option linter.unusedSimpArgs false
open Go.ChangeShapes Go.WideShapes Go.ChangeAt Go.RowKit
def lastC (L : List Int) : Nat → Int
  | 0 => 0
  | k + 1 => max (lastC L k) (L.getD (k * 9 + 2) 0)
set_option maxHeartbeats 2000000 in
theorem slast_any (a : Option Addr) (n c : Nat) (L : List Int) (w : World) (HS : Hid (Sl w a n 9 (ints L))) (hn : n ≤ 1000) :
    Calls Try.prog 17 #[.slice a n c] w fun e w' => e = .returned (.int .i64 (lastC L n)) ∧ Below w.heap.size w w' := by
  have ST : Hid (∀ i, lastC L (i + 1) = max (lastC L i) (L.getD (i * 9 + 2) 0)) := Lib.hid (fun i => rfl)
  have HL : Hid (L.length = n * 9) := Lib.hid (by have := HS.out.1; rwa [ints_len] at this)
  go_enter Try.func17, Try.ntmps17
  go_upto_region 3 with fail
  go_loopg [3, 8] n (fun g s3 s8 wr => ∃ i : Nat, g + i = n ∧ s8 = .int .i64 i ∧ s3 = .int .i64 (lastC L i) ∧ Hid (Below w.heap.size w wr))
  case atStart => exact ⟨0, rfl, rfl, rfl, Lib.hid (Below.refl w.heap.size w)⟩
  case round =>
    obtain ⟨i, hqi, rfl, rfl, hbr⟩ := hrel
    by_cases hi : i < n
    · obtain ⟨b, off, rfl, hlc, hra⟩ := rAt_at (HS.out.keep hbr.out) hi
      have LR := rAt_len HL.out hi
      have TO : RowT 25 (ints (rAt 9 L i)).length := by rw [ints_len, LR]; exact rowChg
      have OX : Hid (∀ u ∈ ints (rAt 9 L i), u.oneCell' = true) := Lib.hid fun u hu => ints_one hu
      have LX : Hid ((ints (rAt 9 L i)).length = 9) := Lib.hid (by rw [ints_len, LR])
      have X2 : Hid ((ints (rAt 9 L i))[2]? = some (.int .i64 (L.getD (i * 9 + 2) 0))) := Lib.hid (by rw [ints_get _ _ (by omega), rAt_get (by decide)])
      have S1 := Lib.hid (ST.out i)
      generalize ints (rAt 9 L i) = X at *
      generalize L.getD (i * 9 + 2) 0 = z at *
      generalize lastC L i = y at *
      have hi0 : (0 : Int) ≤ i := by omega
      have hin : (i : Int) < n := by omega
      clear hlc LR
      go_upto_region 5 with (first
        | ((with_reducible refine ld_row hra TO ?_ ?_ ?_); (· rfl); (· rfl); (simp only [Act.put, List.setIfInBounds_toArray, List.set_cons_zero, List.set_cons_succ]))
        | ((with_reducible refine st_row_new (cs := X) TO OX.out ?_ ?_ ?_ ?_); (· first | rfl | simp); (· rfl); (· exact LX.out.symm); (simp only [Act.put, List.setIfInBounds_toArray, List.set_cons_zero, List.set_cons_succ])))
      have HB2 := Lib.hid (hbr.out.alloc hbr.out.size (.cells X.toArray 25))
      have hc2 : (wr.alloc (.cells X.toArray 25)).cell? ⟨wr.heap.size, 2, none⟩ = some (.int .i64 z) := ((Blk.new wr X.toArray 25).cell 2).trans (by rw [List.toList_toArray]; exact X2.out)
      generalize wr.alloc (.cells X.toArray 25) = w2 at *
      clear hra X2 hbr
      go_wp2_with fail
      go_roundg (gk - 1)
      case measure => omega
      case rel => exact ⟨i + 1, by omega, by go_num, by rw [S1.out], HB2⟩
    · have hin : ¬ (i : Int) < n := by omega
      have hie : i = n := by omega
      subst hie
      go_wp2_with fail
      go_ret
      exact ⟨rfl, hbr.out⟩
end Go.Proofs.Ytbdonjapcpfgiaa
