/- Something lives: stamps. -/
import Derived.Test.YtcfipimhpeblbaaStm8
import Derived.Deep.DeepCutAuto
import Derived.Maps.AppendAt
import Derived.Test.YtcfipimhpeblbaaRow
import Derived.Test.YtcfipimhpeblbaaOps
import Derived.RegionTactic
import Derived.BigRegion
import Derived.ChangeAlike
namespace Go.Proofs.Ytcfipimhpeblbaa
set_option linter.unusedVariables false
set_option linter.unusedSimpArgs false
open Go.ChangeShapes Go.WideShapes Go.ChangeAt Go.RowKit
theorem swithout2 (x y : List Int) (a : Option Addr) (c : Nat) (w : World) (HS : Hid (Sl w a 2 9 (ints (y ++ x)))) (hnil : a = none → c = 0) (lx : x.length = 9) (ly : y.length = 9) :
    Calls Try.prog 24 #[.slice a 2 c, .int .i64 0] w fun e w' => ∃ g c2, e = .returned (.slice (some ⟨g, 0, none⟩) 1 c2) ∧ Below w.heap.size w w' := by
  have CL := Lib.hid (cclone_any a 2 c (y ++ x) w HS.out hnil (by decide))
  have D := Lib.hid (fun g S c2 (w2 : World) (A : Hid (Blk w2 g (ints y ++ (ints x ++ S)) 36)) => del2 (ints y) (ints x) S g c2 w2 A (by rw [ints_len, lx]) (by rw [ints_len, ly]) (Lib.hid fun u hu => ints_one hu))
  have EA : Hid (ints (y ++ x) = ints y ++ ints x) := Lib.hid (ints_appG y x)
  clear lx ly HS hnil
  go_enter Try.func24, Try.ntmps24
  go_wp2_with fail
  refine CL.out.mono ?_
  rintro e w2 ⟨v, rfl, hown, hb⟩
  have HB := Lib.hid hb
  obtain ⟨a2, c2, rfl, h2, h3, h4, h5⟩ := own_blkS hown
  rcases h5 with ⟨h5, _⟩ | ⟨g, S, rfl, hg, hA, hlS⟩
  · exact absurd h5 (by decide)
  rw [EA.out, List.append_assoc] at hA
  have HA := Lib.hid hA
  have HLS : Hid (18 + S.length = c2 * 9) := Lib.hid (by have := h4; rw [List.length_append] at hlS; omega)
  clear hlS
  have I2 := Lib.hid (D.out g S c2 w2 HA h2 h3 HLS)
  have HG := Lib.hid hg
  clear hA hb hown h4 CL D HA
  go_wp2_with fail
  refine I2.out.mono ?_
  rintro e w3 ⟨rfl, hO⟩
  have HB3 := Lib.hid (HB.out.trans (hO.toBelow (fun k hk => hk ▸ HG.out) HB.out.size))
  clear hO I2
  go_wp2_with fail
  go_ret
  exact ⟨g, c2, rfl, HB3.out⟩
theorem flatCgS : flat Try.prog 4 36 = some (List.replicate 9 (some .i64)) := by kernel_rfl
theorem okCgS : ∀ (l : List Int), (∀ k, fits (l.getD k 0) = true) → OkAll (List.replicate l.length (some .i64)) (ints l)
  | [], _ => trivial
  | z :: l, h => ⟨⟨z, rfl, wf_fitsS (h 0)⟩, okCgS l (fun k => h (k + 1))⟩
theorem cg_eqlS (x : List Int) (hx : x.length = 9) (fx : ∀ k, fits (x.getD k 0) = true) (w : World) : (binOp .eql 36 (.agg (ints x).toArray) (.agg (ints x).toArray)).run Try.prog w = .ok (.bool true) w := by
  have h1 := okCgS x fx
  rw [hx] at h1
  have := eql_flat 4 6 36 _ _ _ w flatCgS (by kernel_rfl) (by kernel_rfl) (by kernel_rfl) (by decide) h1 h1
  rwa [sameB_refl] at this
theorem egCgS : Try.prog.eqGuardType Try.prog.depth 36 = false := by kernel_rfl
theorem sl_pair (w : World) (x y : List Int) (hx : x.length = 9) (hy : y.length = 9) (cs : Array Value) (hc : cs = (ints (x ++ y)).toArray) : Sl (w.alloc (.cells cs 36)) (some ⟨w.heap.size, 0, none⟩) 2 9 (ints (x ++ y)) := by
  subst hc
  refine ⟨by rw [ints_len, List.length_append]; omega, Or.inr ⟨_, _, rfl, by simp, fun j hj => ?_⟩⟩
  rw [Nat.zero_add, cell_of_row _ _ j _ _ _ (heap_alloc_new _ _), List.getD_eq_getElem?_getD, List.getElem?_eq_getElem (by rw [ints_len, List.length_append]; omega)]
  simp [List.getElem?_eq_getElem (show j < (ints (x ++ y)).length by rw [ints_len, List.length_append]; omega)]
theorem sl_pre {w : World} {g t n sz : Nat} {cs S : List Value} (h : Blk w g (cs ++ S) t) (hl : cs.length = n * sz) : Sl w (some ⟨g, 0, none⟩) n sz cs := ⟨hl, Or.inr ⟨g, 0, rfl, h.lt, fun j hj => by rw [Nat.zero_add, h.cell j, List.getElem?_append_left (by omega), List.getD_eq_getElem?_getD, List.getElem?_eq_getElem (by omega)]; rfl⟩⟩
theorem fits_all : ∀ (l : List Int), l.all fits = true → ∀ k, fits (l.getD k 0) = true
  | [], _, _ => rfl
  | z :: l, h, 0 => by simp only [List.all_cons, Bool.and_eq_true] at h; exact h.1
  | z :: l, h, k + 1 => by simp only [List.all_cons, Bool.and_eq_true] at h; exact fits_all l h.2 k
theorem c7_less : lessC [2, 1, 3, 0, 0, 0, 0, 0, 0] [0, 1, 4, 0, 0, 0, 0, 0, 0] = true := by decide
theorem c7_cmp : cmpC [2, 1, 3, 0, 0, 0, 0, 0, 0] [0, 1, 4, 0, 0, 0, 0, 0, 0] = -1 := by decide
theorem c7_idx : idxC ([2, 1, 3, 0, 0, 0, 0, 0, 0] ++ [0, 1, 4, 0, 0, 0, 0, 0, 0]) 0 1 2 = 1 := by decide
theorem c7_last : lastC ([2, 1, 3, 0, 0, 0, 0, 0, 0] ++ [0, 1, 4, 0, 0, 0, 0, 0, 0]) 2 = 4 := by decide
theorem c7_L (w : World) : Calls Try.prog 37 #[.agg #[.int .i64 2, .int .i64 1, .int .i64 3, .int .i64 0, .int .i64 0, .int .i64 0, .int .i64 0, .int .i64 0, .int .i64 0], .agg #[.int .i64 0, .int .i64 1, .int .i64 4, .int .i64 0, .int .i64 0, .int .i64 0, .int .i64 0, .int .i64 0, .int .i64 0]] w fun e w2 => e = .returned (.bool true) ∧ Below w.heap.size w w2 := by
  have := sless [2, 1, 3, 0, 0, 0, 0, 0, 0] [0, 1, 4, 0, 0, 0, 0, 0, 0] rfl rfl w
  rw [c7_less] at this
  exact this
theorem c7_C (w : World) : Calls Try.prog 41 #[.agg (ints [2, 1, 3, 0, 0, 0, 0, 0, 0]).toArray, .agg (ints [0, 1, 4, 0, 0, 0, 0, 0, 0]).toArray] w fun e w2 => e = .returned (.int .i64 (-1)) ∧ Below w.heap.size w w2 := by
  have := scmp [2, 1, 3, 0, 0, 0, 0, 0, 0] [0, 1, 4, 0, 0, 0, 0, 0, 0] rfl rfl w
  rw [c7_cmp] at this
  exact this
theorem c7_F (g c : Nat) (w : World) (HS : Sl w (some ⟨g, 0, none⟩) 2 9 (ints ([2, 1, 3, 0, 0, 0, 0, 0, 0] ++ [0, 1, 4, 0, 0, 0, 0, 0, 0]))) : Calls Try.prog 23 #[.slice (some ⟨g, 0, none⟩) 2 c, .agg #[.int .i64 0, .int .i64 1]] w fun e w2 => e = .returned (.int .i64 1) ∧ Below w.heap.size w w2 := by
  have := sfind_any (some ⟨g, 0, none⟩) 2 c ([2, 1, 3, 0, 0, 0, 0, 0, 0] ++ [0, 1, 4, 0, 0, 0, 0, 0, 0]) 0 1 w (Lib.hid HS) (Lib.hid (fits_all _ (by decide))) (by decide) (by decide) (by decide)
  rw [c7_idx] at this
  exact this
theorem c7_N (w : World) : (binOp .eql 36 (.agg #[.int .i64 2, .int .i64 1, .int .i64 3, .int .i64 0, .int .i64 0, .int .i64 0, .int .i64 0, .int .i64 0, .int .i64 0]) (.agg #[.int .i64 2, .int .i64 1, .int .i64 3, .int .i64 0, .int .i64 0, .int .i64 0, .int .i64 0, .int .i64 0, .int .i64 0])).run Try.prog w = .ok (.bool true) w := cg_eqlS [2, 1, 3, 0, 0, 0, 0, 0, 0] rfl (fits_all _ (by decide)) w
end Go.Proofs.Ytcfipimhpeblbaa
