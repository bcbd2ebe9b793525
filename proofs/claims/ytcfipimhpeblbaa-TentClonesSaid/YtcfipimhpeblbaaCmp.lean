/- cmp.Compare and cmp.Or at integers. -/
import Derived.Test.YtcfipimhpeblbaaRws
import Derived.Test.YtcfipimhpeblbaaHeld
import Derived.Test.YtcfipimhpeblbaaBlk
import Derived.Test.YtcfipimhpeblbaaOct
import Derived.Deep.DeepCutAuto
import Derived.Maps.AppendAt
import Derived.Test.YtcfipimhpeblbaaRow
import Derived.Test.YtcfipimhpeblbaaOps
import Derived.RegionTactic
import Derived.BigRegion
import Derived.ChangeAlike
namespace Go.Proofs.Ytcfipimhpeblbaa
set_option linter.unusedVariables false
set_option linter.unusedSimpArgs false
open Go.ChangeShapes Go.WideShapes Go.ChangeAt Go.RowKit
def cmpI (x y : Int) : Int := if x < y then -1 else if y < x then 1 else 0
theorem nan_any (x : Int) (w : World) : Calls Try.prog 45 #[.int .i64 x] w fun e w' => e = .returned (.bool false) ∧ w' = w := by
  go_enter Try.func45, Try.ntmps45
  go_wp2_with fail
  go_ret
  exact ⟨rfl, rfl⟩
theorem cmp_any (x y : Int) (w : World) : Calls Try.prog 44 #[.int .i64 x, .int .i64 y] w fun e w' => e = .returned (.int .i64 (cmpI x y)) ∧ w' = w := by
  by_cases h1 : x < y
  · rw [show cmpI x y = -1 from if_pos h1]
    go_enter Try.func44, Try.ntmps44
    go_wp2_with (go_at_call 45; refine (nan_any _ _).mono ?_; rintro e w' ⟨rfl, rfl⟩)
    go_ret
    exact ⟨rfl, rfl⟩
  · by_cases h2 : y < x
    · rw [show cmpI x y = 1 from (if_neg h1).trans (if_pos h2)]
      go_enter Try.func44, Try.ntmps44
      go_wp2_with (go_at_call 45; refine (nan_any _ _).mono ?_; rintro e w' ⟨rfl, rfl⟩)
      go_ret
      exact ⟨rfl, rfl⟩
    · rw [show cmpI x y = 0 from (if_neg h1).trans (if_neg h2)]
      go_enter Try.func44, Try.ntmps44
      go_wp2_with (go_at_call 45; refine (nan_any _ _).mono ?_; rintro e w' ⟨rfl, rfl⟩)
      go_ret
      exact ⟨rfl, rfl⟩
/-- the first that is not zero. -/
def firstNZ : List Int → Int
  | [] => 0
  | x :: l => if x = 0 then firstNZ l else x
theorem firstNZ_drop {xs : List Int} {i : Nat} (h : xs.getD i 0 = 0) (hi : i < xs.length) : firstNZ (xs.drop i) = firstNZ (xs.drop (i + 1)) := by
  rw [List.drop_eq_getElem_cons hi, firstNZ, if_pos]
  rw [List.getD_eq_getElem?_getD, List.getElem?_eq_getElem hi] at h
  exact h
theorem firstNZ_here {xs : List Int} {i : Nat} (h : xs.getD i 0 ≠ 0) (hi : i < xs.length) : firstNZ (xs.drop i) = xs.getD i 0 := by
  have e : xs.getD i 0 = xs[i] := by rw [List.getD_eq_getElem?_getD, List.getElem?_eq_getElem hi]; rfl
  rw [List.drop_eq_getElem_cons hi, firstNZ, if_neg (e ▸ h), e]
theorem or_any (a : Option Addr) (n c : Nat) (xs : List Int) (w : World) (h : Sl w a n 1 (ints xs)) (hn : n ≤ 1000) : Calls Try.prog 43 #[.slice a n c] w fun e w' => e = .returned (.int .i64 (firstNZ xs)) ∧ w' = w := by
  have hl : Hid (xs.length = n) := Lib.hid (by have := h.1; rw [ints_len] at this; omega)
  have HS := Lib.hid h
  have HF : Hid (firstNZ (xs.drop 0) = firstNZ xs) := Lib.hid (by rw [List.drop_zero])
  clear h
  go_enter Try.func43, Try.ntmps43
  go_wp2_with fail
  go_loopg [8] n (fun q s8 wr => ∃ i : Nat, q + i = n ∧ s8 = .int .i64 i ∧ Hid (firstNZ (xs.drop i) = firstNZ xs) ∧ w = wr)
  case atStart => exact ⟨0, rfl, rfl, HF, rfl⟩
  case round =>
    obtain ⟨i, hqi, rfl, HI, rfl⟩ := hrel
    clear HF
    by_cases hi : i < n
    · have hi0 : (0 : Int) ≤ i := by omega
      have hin : (i : Int) < n := by omega
      have hnb : (n : Int) ≤ 1000 := by omega
      obtain ⟨b, off, ha, hb, hc⟩ : ∃ b off, a = some ⟨b, off, none⟩ ∧ b < w.heap.size ∧ w.cell? ⟨b, off + i, none⟩ = some (.int .i64 (xs.getD i 0)) := by
        rcases HS.out.2 with h0 | ⟨b, off, ha, hb, hc⟩
        · omega
        · refine ⟨b, off, ha, hb, ?_⟩
          rw [hc i (by omega), List.getD_eq_getElem?_getD, ints_get _ _ (by rw [hl.out]; exact hi)]
          rfl
      subst ha
      obtain ⟨x, hx⟩ : ∃ x, x = xs.getD i 0 := ⟨_, rfl⟩
      rw [← hx] at hc
      rcases hx0 : (x != 0) with _ | _
      · have HN := Lib.hid (firstNZ_drop (xs := xs) (i := i) (by rw [← hx]; simpa using hx0) (by rw [hl.out]; exact hi))
        clear hx
        go_wp2_with fail
        go_roundg (gk - 1)
        case measure => omega
        case rel => exact ⟨i + 1, by omega, by go_num, Lib.hid (by rw [← HN.out]; exact HI.out), rfl⟩
      · have HN : Hid (firstNZ xs = x) := Lib.hid (by rw [← HI.out, hx]; exact firstNZ_here (by rw [← hx]; simpa using hx0) (by rw [hl.out]; exact hi))
        clear hx
        go_wp2_with fail
        go_ret
        exact ⟨by rw [HN.out]; rfl, rfl⟩
    · have hin : ¬ (i : Int) < n := by omega
      have HN : Hid (firstNZ xs = 0) := Lib.hid (by rw [← HI.out, List.drop_eq_nil_of_le (by rw [hl.out]; omega)]; rfl)
      go_wp2_with fail
      go_ret
      exact ⟨by rw [HN.out]; rfl, rfl⟩
/-- a literal of integers. -/
theorem sl_ints (w : World) (xs : List Int) (hp : 0 < xs.length) : Sl (w.alloc (.cells (ints xs).toArray 3)) (some ⟨w.heap.size, 0, none⟩) xs.length 1 (ints xs) := by
  refine ⟨by rw [ints_len]; omega, Or.inr ⟨_, _, rfl, by simp, fun j hj => ?_⟩⟩
  rw [Nat.zero_add, cell_of_row _ _ j _ _ _ (heap_alloc_new _ _), List.getD_eq_getElem?_getD, List.getElem?_eq_getElem (by rw [ints_len]; omega)]
  simp [List.getElem?_eq_getElem (show j < (ints xs).length by rw [ints_len]; omega)]
end Go.Proofs.Ytcfipimhpeblbaa
