/- Something lives: stamps. -/
import Derived.Test.YtbdonjapcpfgiaaStm8
import Derived.Deep.DeepCutAuto
import Derived.Maps.AppendAt
import Derived.Test.YtbdonjapcpfgiaaRow
import Derived.Test.YtbdonjapcpfgiaaOps
import Derived.RegionTactic
import Derived.BigRegion
import Derived.ChangeAlike
namespace Go.Proofs.Ytbdonjapcpfgiaa
set_option linter.unusedVariables false
set_option linter.unusedSimpArgs false
open Go.ChangeShapes Go.WideShapes Go.ChangeAt Go.RowKit
theorem swithout2 (x y : List Int) (a : Option Addr) (c : Nat) (w : World) (HS : Hid (Sl w a 2 9 (ints (y ++ x)))) (hnil : a = none → c = 0) (lx : x.length = 9) (ly : y.length = 9) :
    Calls Try.prog 11 #[.slice a 2 c, .int .i64 0] w fun e w' => ∃ g c2, e = .returned (.slice (some ⟨g, 0, none⟩) 1 c2) ∧ Below w.heap.size w w' := by
  have CL := Lib.hid (cclone_any a 2 c (y ++ x) w HS.out hnil (by decide))
  have D := Lib.hid (fun g S c2 (w2 : World) (A : Hid (Blk w2 g (ints y ++ (ints x ++ S)) 25)) => del2 (ints y) (ints x) S g c2 w2 A (by rw [ints_len, lx]) (by rw [ints_len, ly]) (Lib.hid fun u hu => ints_one hu))
  have EA : Hid (ints (y ++ x) = ints y ++ ints x) := Lib.hid (ints_appG y x)
  clear lx ly HS hnil
  go_enter Try.func11, Try.ntmps11
  go_wp2_with fail
  refine CL.out.mono ?_
  rintro e w2 ⟨v, rfl, hown, hb⟩
  have HB := Lib.hid hb
  obtain ⟨a2, c2, rfl, h2, h3, h4, h5⟩ := own_blkS hown
  rcases h5 with ⟨h5, _⟩ | ⟨g, S, rfl, hg, hA, hlS⟩
  · exact absurd h5 (by decide)
  rw [EA.out, List.append_assoc] at hA
  have HA := Lib.hid hA
  have HLS : Hid (18 + S.length = c2 * 9) := Lib.hid (by have := h4; rw [List.length_append] at hlS; omega)
  clear hlS
  have I2 := Lib.hid (D.out g S c2 w2 HA h2 h3 HLS)
  have HG := Lib.hid hg
  clear hA hb hown h4 CL D HA
  go_wp2_with fail
  refine I2.out.mono ?_
  rintro e w3 ⟨rfl, hO⟩
  have HB3 := Lib.hid (HB.out.trans (hO.toBelow (fun k hk => hk ▸ HG.out) HB.out.size))
  clear hO I2
  go_wp2_with fail
  go_ret
  exact ⟨g, c2, rfl, HB3.out⟩
theorem flatCgS : flat Try.prog 4 25 = some (List.replicate 9 (some .i64)) := by kernel_rfl
theorem okCgS : ∀ (l : List Int), (∀ k, fits (l.getD k 0) = true) → OkAll (List.replicate l.length (some .i64)) (ints l)
  | [], _ => trivial
  | z :: l, h => ⟨⟨z, rfl, wf_fitsS (h 0)⟩, okCgS l (fun k => h (k + 1))⟩
theorem cg_eqlS (x : List Int) (hx : x.length = 9) (fx : ∀ k, fits (x.getD k 0) = true) (w : World) : (binOp .eql 25 (.agg (ints x).toArray) (.agg (ints x).toArray)).run Try.prog w = .ok (.bool true) w := by
  have h1 := okCgS x fx
  rw [hx] at h1
  have := eql_flat 4 6 25 _ _ _ w flatCgS (by kernel_rfl) (by kernel_rfl) (by kernel_rfl) (by decide) h1 h1
  rwa [sameB_refl] at this
theorem egCgS : Try.prog.eqGuardType Try.prog.depth 25 = false := by kernel_rfl
theorem sl_pair (w : World) (x y : List Int) (hx : x.length = 9) (hy : y.length = 9) (cs : Array Value) (hc : cs = (ints (x ++ y)).toArray) : Sl (w.alloc (.cells cs 25)) (some ⟨w.heap.size, 0, none⟩) 2 9 (ints (x ++ y)) := by
  subst hc
  refine ⟨by rw [ints_len, List.length_append]; omega, Or.inr ⟨_, _, rfl, by simp, fun j hj => ?_⟩⟩
  rw [Nat.zero_add, cell_of_row _ _ j _ _ _ (heap_alloc_new _ _), List.getD_eq_getElem?_getD, List.getElem?_eq_getElem (by rw [ints_len, List.length_append]; omega)]
  simp [List.getElem?_eq_getElem (show j < (ints (x ++ y)).length by rw [ints_len, List.length_append]; omega)]
theorem sl_pre {w : World} {g t n sz : Nat} {cs S : List Value} (h : Blk w g (cs ++ S) t) (hl : cs.length = n * sz) : Sl w (some ⟨g, 0, none⟩) n sz cs := ⟨hl, Or.inr ⟨g, 0, rfl, h.lt, fun j hj => by rw [Nat.zero_add, h.cell j, List.getElem?_append_left (by omega), List.getD_eq_getElem?_getD, List.getElem?_eq_getElem (by omega)]; rfl⟩⟩
theorem fits_all : ∀ (l : List Int), l.all fits = true → ∀ k, fits (l.getD k 0) = true
  | [], _, _ => rfl
  | z :: l, h, 0 => by simp only [List.all_cons, Bool.and_eq_true] at h; exact h.1
  | z :: l, h, k + 1 => by simp only [List.all_cons, Bool.and_eq_true] at h; exact fits_all l h.2 k
theorem c7_less : lessC [2, 1, 3, 0, 0, 0, 0, 0, 0] [0, 1, 4, 0, 0, 0, 0, 0, 0] = true := by decide
theorem c7_cmp : cmpC [2, 1, 3, 0, 0, 0, 0, 0, 0] [0, 1, 4, 0, 0, 0, 0, 0, 0] = -1 := by decide
theorem c7_idx : idxC ([2, 1, 3, 0, 0, 0, 0, 0, 0] ++ [0, 1, 4, 0, 0, 0, 0, 0, 0]) 0 1 2 = 1 := by decide
theorem c7_last : lastC ([2, 1, 3, 0, 0, 0, 0, 0, 0] ++ [0, 1, 4, 0, 0, 0, 0, 0, 0]) 2 = 4 := by decide
theorem c7_L (w : World) : Calls Try.prog 7 #[.agg #[.int .i64 2, .int .i64 1, .int .i64 3, .int .i64 0, .int .i64 0, .int .i64 0, .int .i64 0, .int .i64 0, .int .i64 0], .agg #[.int .i64 0, .int .i64 1, .int .i64 4, .int .i64 0, .int .i64 0, .int .i64 0, .int .i64 0, .int .i64 0, .int .i64 0]] w fun e w2 => e = .returned (.bool true) ∧ Below w.heap.size w w2 := by
  have := sless [2, 1, 3, 0, 0, 0, 0, 0, 0] [0, 1, 4, 0, 0, 0, 0, 0, 0] rfl rfl w
  rw [c7_less] at this
  exact this
theorem c7_C (w : World) : Calls Try.prog 20 #[.agg (ints [2, 1, 3, 0, 0, 0, 0, 0, 0]).toArray, .agg (ints [0, 1, 4, 0, 0, 0, 0, 0, 0]).toArray] w fun e w2 => e = .returned (.int .i64 (-1)) ∧ Below w.heap.size w w2 := by
  have := scmp [2, 1, 3, 0, 0, 0, 0, 0, 0] [0, 1, 4, 0, 0, 0, 0, 0, 0] rfl rfl w
  rw [c7_cmp] at this
  exact this
theorem c7_F (g c : Nat) (w : World) (HS : Sl w (some ⟨g, 0, none⟩) 2 9 (ints ([2, 1, 3, 0, 0, 0, 0, 0, 0] ++ [0, 1, 4, 0, 0, 0, 0, 0, 0]))) : Calls Try.prog 15 #[.slice (some ⟨g, 0, none⟩) 2 c, .agg #[.int .i64 0, .int .i64 1]] w fun e w2 => e = .returned (.int .i64 1) ∧ Below w.heap.size w w2 := by
  have := sfind_any (some ⟨g, 0, none⟩) 2 c ([2, 1, 3, 0, 0, 0, 0, 0, 0] ++ [0, 1, 4, 0, 0, 0, 0, 0, 0]) 0 1 w (Lib.hid HS) (Lib.hid (fits_all _ (by decide))) (by decide) (by decide) (by decide)
  rw [c7_idx] at this
  exact this
theorem c7_T (w : World) : Calls Try.prog 17 #[.slice (some ⟨w.heap.size, 0, none⟩) 2 2] (w.alloc (.cells #[.int .i64 2, .int .i64 1, .int .i64 3, .int .i64 0, .int .i64 0, .int .i64 0, .int .i64 0, .int .i64 0, .int .i64 0, .int .i64 0, .int .i64 1, .int .i64 4, .int .i64 0, .int .i64 0, .int .i64 0, .int .i64 0, .int .i64 0, .int .i64 0] 25)) fun e w2 => e = .returned (.int .i64 4) ∧ Below (w.alloc (.cells #[.int .i64 2, .int .i64 1, .int .i64 3, .int .i64 0, .int .i64 0, .int .i64 0, .int .i64 0, .int .i64 0, .int .i64 0, .int .i64 0, .int .i64 1, .int .i64 4, .int .i64 0, .int .i64 0, .int .i64 0, .int .i64 0, .int .i64 0, .int .i64 0] 25)).heap.size (w.alloc (.cells #[.int .i64 2, .int .i64 1, .int .i64 3, .int .i64 0, .int .i64 0, .int .i64 0, .int .i64 0, .int .i64 0, .int .i64 0, .int .i64 0, .int .i64 1, .int .i64 4, .int .i64 0, .int .i64 0, .int .i64 0, .int .i64 0, .int .i64 0, .int .i64 0] 25)) w2 := by
  have := slast_any (some ⟨w.heap.size, 0, none⟩) 2 2 ([2, 1, 3, 0, 0, 0, 0, 0, 0] ++ [0, 1, 4, 0, 0, 0, 0, 0, 0]) _ (Lib.hid (sl_pair w [2, 1, 3, 0, 0, 0, 0, 0, 0] [0, 1, 4, 0, 0, 0, 0, 0, 0] rfl rfl #[.int .i64 2, .int .i64 1, .int .i64 3, .int .i64 0, .int .i64 0, .int .i64 0, .int .i64 0, .int .i64 0, .int .i64 0, .int .i64 0, .int .i64 1, .int .i64 4, .int .i64 0, .int .i64 0, .int .i64 0, .int .i64 0, .int .i64 0, .int .i64 0] rfl)) (by decide)
  rw [c7_last] at this
  exact this
theorem c7_N (w : World) : (binOp .eql 25 (.agg #[.int .i64 2, .int .i64 1, .int .i64 3, .int .i64 0, .int .i64 0, .int .i64 0, .int .i64 0, .int .i64 0, .int .i64 0]) (.agg #[.int .i64 2, .int .i64 1, .int .i64 3, .int .i64 0, .int .i64 0, .int .i64 0, .int .i64 0, .int .i64 0, .int .i64 0])).run Try.prog w = .ok (.bool true) w := cg_eqlS [2, 1, 3, 0, 0, 0, 0, 0, 0] rfl (fits_all _ (by decide)) w
set_option maxHeartbeats 4000000 in
theorem alive07 (w : World) : Calls Try.prog 6 #[] w fun e w' => e = .returned (.bool true) ∧ Below w.heap.size w w' := by
  obtain ⟨wa, hwa⟩ : ∃ wa, wa = w.alloc (.cells #[.int .i64 2, .int .i64 1, .int .i64 3, .int .i64 0, .int .i64 0, .int .i64 0, .int .i64 0, .int .i64 0, .int .i64 0] 25) := ⟨_, rfl⟩
  obtain ⟨wb, hwb⟩ : ∃ wb, wb = wa.alloc (.cells #[.int .i64 0, .int .i64 1, .int .i64 4, .int .i64 0, .int .i64 0, .int .i64 0, .int .i64 0, .int .i64 0, .int .i64 0] 25) := ⟨_, rfl⟩
  obtain ⟨wc, hwc⟩ : ∃ wc, wc = wb.alloc (.cells #[.int .i64 0, .int .i64 1, .int .i64 4, .int .i64 0, .int .i64 0, .int .i64 0, .int .i64 0, .int .i64 0, .int .i64 0, .int .i64 2, .int .i64 1, .int .i64 3, .int .i64 0, .int .i64 0, .int .i64 0, .int .i64 0, .int .i64 0, .int .i64 0] 25) := ⟨_, rfl⟩
  have s1 : wa.heap.size = w.heap.size + 1 := by rw [hwa]; simp
  have s2 : wb.heap.size = w.heap.size + 1 + 1 := by rw [hwb]; simp [s1]
  have b1 : Below w.heap.size w wa := hwa ▸ (Below.refl _ _).alloc (Nat.le_refl _) _
  have b2 : Below w.heap.size w wb := hwb ▸ b1.alloc b1.size _
  have HBC : Hid (Below w.heap.size w wc) := Lib.hid (hwc ▸ b2.alloc b2.size _)
  have A1 : Blk wa w.heap.size (#[.int .i64 2, .int .i64 1, .int .i64 3, .int .i64 0, .int .i64 0, .int .i64 0, .int .i64 0, .int .i64 0, .int .i64 0] : Array Value).toList 25 := hwa ▸ Blk.new w #[.int .i64 2, .int .i64 1, .int .i64 3, .int .i64 0, .int .i64 0, .int .i64 0, .int .i64 0, .int .i64 0, .int .i64 0] 25
  have HA0 : Hid (Blk wc w.heap.size (#[.int .i64 2, .int .i64 1, .int .i64 3, .int .i64 0, .int .i64 0, .int .i64 0, .int .i64 0, .int .i64 0, .int .i64 0] : Array Value).toList 25) := Lib.hid (hwc ▸ (hwb ▸ A1.alloc _).alloc _)
  have B1 : Blk wb (w.heap.size + 1) (#[.int .i64 0, .int .i64 1, .int .i64 4, .int .i64 0, .int .i64 0, .int .i64 0, .int .i64 0, .int .i64 0, .int .i64 0] : Array Value).toList 25 := s1 ▸ (hwb ▸ Blk.new wa #[.int .i64 0, .int .i64 1, .int .i64 4, .int .i64 0, .int .i64 0, .int .i64 0, .int .i64 0, .int .i64 0, .int .i64 0] 25)
  have HK0 : Hid (Blk wc (w.heap.size + 1) (#[.int .i64 0, .int .i64 1, .int .i64 4, .int .i64 0, .int .i64 0, .int .i64 0, .int .i64 0, .int .i64 0, .int .i64 0] : Array Value).toList 25) := Lib.hid (hwc ▸ B1.alloc _)
  have SP : Sl wc (some ⟨w.heap.size + 1 + 1, 0, none⟩) 2 9 (ints ([0, 1, 4, 0, 0, 0, 0, 0, 0] ++ [2, 1, 3, 0, 0, 0, 0, 0, 0])) := s2 ▸ (hwc ▸ sl_pair wb [0, 1, 4, 0, 0, 0, 0, 0, 0] [2, 1, 3, 0, 0, 0, 0, 0, 0] rfl rfl #[.int .i64 0, .int .i64 1, .int .i64 4, .int .i64 0, .int .i64 0, .int .i64 0, .int .i64 0, .int .i64 0, .int .i64 0, .int .i64 2, .int .i64 1, .int .i64 3, .int .i64 0, .int .i64 0, .int .i64 0, .int .i64 0, .int .i64 0, .int .i64 0] rfl)
  have ST := Lib.hid (sorted2 [0, 1, 4, 0, 0, 0, 0, 0, 0] [2, 1, 3, 0, 0, 0, 0, 0, 0] (some ⟨w.heap.size + 1 + 1, 0, none⟩) 2 (-1) wc (Lib.hid SP) (fun h => by cases h) rfl rfl (Lib.hid fun w' => c7_C w') (by decide))
  have HWC : Hid (wc = ((w.alloc (.cells #[.int .i64 2, .int .i64 1, .int .i64 3, .int .i64 0, .int .i64 0, .int .i64 0, .int .i64 0, .int .i64 0, .int .i64 0] 25)).alloc (.cells #[.int .i64 0, .int .i64 1, .int .i64 4, .int .i64 0, .int .i64 0, .int .i64 0, .int .i64 0, .int .i64 0, .int .i64 0] 25)).alloc (.cells #[.int .i64 0, .int .i64 1, .int .i64 4, .int .i64 0, .int .i64 0, .int .i64 0, .int .i64 0, .int .i64 0, .int .i64 0, .int .i64 2, .int .i64 1, .int .i64 3, .int .i64 0, .int .i64 0, .int .i64 0, .int .i64 0, .int .i64 0, .int .i64 0] 25)) := Lib.hid (by rw [hwc, hwb, hwa])
  clear hwa hwb hwc s1 s2 b1 b2 A1 B1 SP
  go_enter Try.func6, Try.ntmps6
  go_wp2_with fail
  rw [← HWC.out]
  refine ST.out.mono ?_
  rintro e w2 ⟨g, c2, S, rfl, h2, h3, hg, hlS, hA, hb⟩
  have HA := Lib.hid (HA0.out.keep hb HA0.out.lt)
  have HK := Lib.hid (HK0.out.keep hb HK0.out.lt)
  have HR : Hid (Blk w2 g ((#[.int .i64 2, .int .i64 1, .int .i64 3, .int .i64 0, .int .i64 0, .int .i64 0, .int .i64 0, .int .i64 0, .int .i64 0] : Array Value).toList ++ ((#[.int .i64 0, .int .i64 1, .int .i64 4, .int .i64 0, .int .i64 0, .int .i64 0, .int .i64 0, .int .i64 0, .int .i64 0] : Array Value).toList ++ S)) 25) := Lib.hid hA
  have ER : Hid ((((#[.int .i64 2, .int .i64 1, .int .i64 3, .int .i64 0, .int .i64 0, .int .i64 0, .int .i64 0, .int .i64 0, .int .i64 0] : Array Value).toList ++ ((#[.int .i64 0, .int .i64 1, .int .i64 4, .int .i64 0, .int .i64 0, .int .i64 0, .int .i64 0, .int .i64 0, .int .i64 0] : Array Value).toList ++ S)).drop 0).take (#[.int .i64 2, .int .i64 1, .int .i64 3, .int .i64 0, .int .i64 0, .int .i64 0, .int .i64 0, .int .i64 0, .int .i64 0] : Array Value).toList.length = (#[.int .i64 2, .int .i64 1, .int .i64 3, .int .i64 0, .int .i64 0, .int .i64 0, .int .i64 0, .int .i64 0, .int .i64 0] : Array Value).toList) := Lib.hid rfl
  have HB2 := Lib.hid (HBC.out.trans (hb.mono HBC.out.size))
  have SLI : Hid (∀ w', Below w2.heap.size w2 w' → Sl w' (some ⟨g, 0, none⟩) 2 9 (ints ([2, 1, 3, 0, 0, 0, 0, 0, 0] ++ [0, 1, 4, 0, 0, 0, 0, 0, 0]))) := Lib.hid (fun w' h => sl_pre (S := S) (t := 25) (HR.out.keep h HR.out.lt) rfl)
  have CL : Hid (∀ w', Calls Try.prog 7 #[.agg #[.int .i64 2, .int .i64 1, .int .i64 3, .int .i64 0, .int .i64 0, .int .i64 0, .int .i64 0, .int .i64 0, .int .i64 0], .agg #[.int .i64 0, .int .i64 1, .int .i64 4, .int .i64 0, .int .i64 0, .int .i64 0, .int .i64 0, .int .i64 0, .int .i64 0]] w' fun e w2 => e = .returned (.bool true) ∧ Below w'.heap.size w' w2) := Lib.hid (fun w' => c7_L w')
  have CF : Hid (∀ w', Below w2.heap.size w2 w' → Calls Try.prog 15 #[.slice (some ⟨g, 0, none⟩) 2 c2, .agg #[.int .i64 0, .int .i64 1]] w' fun e w2 => e = .returned (.int .i64 1) ∧ Below w'.heap.size w' w2) := Lib.hid (fun w' h => c7_F g c2 w' (SLI.out w' h))
  have CLa : Hid (∀ w' : World, Calls Try.prog 17 #[.slice (some ⟨w'.heap.size, 0, none⟩) 2 2] (w'.alloc (.cells #[.int .i64 2, .int .i64 1, .int .i64 3, .int .i64 0, .int .i64 0, .int .i64 0, .int .i64 0, .int .i64 0, .int .i64 0, .int .i64 0, .int .i64 1, .int .i64 4, .int .i64 0, .int .i64 0, .int .i64 0, .int .i64 0, .int .i64 0, .int .i64 0] 25)) fun e w2 => e = .returned (.int .i64 4) ∧ Below (w'.alloc (.cells #[.int .i64 2, .int .i64 1, .int .i64 3, .int .i64 0, .int .i64 0, .int .i64 0, .int .i64 0, .int .i64 0, .int .i64 0, .int .i64 0, .int .i64 1, .int .i64 4, .int .i64 0, .int .i64 0, .int .i64 0, .int .i64 0, .int .i64 0, .int .i64 0] 25)).heap.size (w'.alloc (.cells #[.int .i64 2, .int .i64 1, .int .i64 3, .int .i64 0, .int .i64 0, .int .i64 0, .int .i64 0, .int .i64 0, .int .i64 0, .int .i64 0, .int .i64 1, .int .i64 4, .int .i64 0, .int .i64 0, .int .i64 0, .int .i64 0, .int .i64 0, .int .i64 0] 25)) w2) := Lib.hid (fun w' => c7_T w')
  have CW : Hid (∀ w', Below w2.heap.size w2 w' → Calls Try.prog 11 #[.slice (some ⟨g, 0, none⟩) 2 c2, .int .i64 0] w' fun e w2 => ∃ g c2, e = .returned (.slice (some ⟨g, 0, none⟩) 1 c2) ∧ Below w'.heap.size w' w2) := Lib.hid (fun w' h => swithout2 [0, 1, 4, 0, 0, 0, 0, 0, 0] [2, 1, 3, 0, 0, 0, 0, 0, 0] (some ⟨g, 0, none⟩) c2 w' (Lib.hid (SLI.out w' h)) (fun h => by cases h) rfl rfl)
  have NE : Hid (∀ w, (binOp .eql 25 (.agg #[.int .i64 2, .int .i64 1, .int .i64 3, .int .i64 0, .int .i64 0, .int .i64 0, .int .i64 0, .int .i64 0, .int .i64 0]) (.agg #[.int .i64 2, .int .i64 1, .int .i64 3, .int .i64 0, .int .i64 0, .int .i64 0, .int .i64 0, .int .i64 0, .int .i64 0])).run Try.prog w = .ok (.bool true) w) := Lib.hid (fun w => c7_N w)
  have H2 := Lib.hid h2
  clear h2 h3 hg hlS hA hb HA0 HK0 ST HWC HBC SLI
  go_upto_region 3 with fail
  refine held_begin (fun w' => Below w2.heap.size w2 w') 36 [false, false, false, false, false, false, false, false, false, false, false, false, false, false, false, false, false, false, false, false, false, false, false, false, false, false, false, false, false, false, false, false, false, false, false, false] (by kernel_rfl) rfl (by rfl) ?_
  have hHeld : Below w2.heap.size w2 w2.drew := (Below.refl _ _).drew
  refine held_take (v := .agg #[.int .i64 2, .int .i64 1, .int .i64 3, .int .i64 0, .int .i64 0, .int .i64 0, .int .i64 0, .int .i64 0, .int .i64 0]) 0 12 [true, false, false, false, false, false, false, false, false, false, false, false, false, false, false, false, false, false, false, false, false, false, false, false, false, false, false, false, false, false, false, false, false, false, false, false] rfl (by rfl) (by rfl) (by kernel_rfl) (by kernel_rfl) (by kernel_rfl) (by rfl) (fun _ _ _ h => h) (fun w' h => run_op_load rfl rfl ((HA.out.keep h HA.out.lt).range 0 (#[.int .i64 2, .int .i64 1, .int .i64 3, .int .i64 0, .int .i64 0, .int .i64 0, .int .i64 0, .int .i64 0, .int .i64 0] : Array Value).toList (by first | rfl | exact ER.out)) Try.underlying25 rfl rfl) hHeld ?_
  simp only [Act.put, List.setIfInBounds_toArray, List.set_cons_zero, List.set_cons_succ]
  refine held_take (v := .agg #[.int .i64 0, .int .i64 1, .int .i64 4, .int .i64 0, .int .i64 0, .int .i64 0, .int .i64 0, .int .i64 0, .int .i64 0]) 1 13 [true, true, false, false, false, false, false, false, false, false, false, false, false, false, false, false, false, false, false, false, false, false, false, false, false, false, false, false, false, false, false, false, false, false, false, false] rfl (by rfl) (by rfl) (by kernel_rfl) (by kernel_rfl) (by kernel_rfl) (by rfl) (fun _ _ _ h => h) (fun w' h => run_op_load rfl rfl ((HK.out.keep h HK.out.lt).range 0 (#[.int .i64 0, .int .i64 1, .int .i64 4, .int .i64 0, .int .i64 0, .int .i64 0, .int .i64 0, .int .i64 0, .int .i64 0] : Array Value).toList (by first | rfl | exact ER.out)) Try.underlying25 rfl rfl) hHeld ?_
  simp only [Act.put, List.setIfInBounds_toArray, List.set_cons_zero, List.set_cons_succ]
  refine held_call 2 14 [true, true, true, false, false, false, false, false, false, false, false, false, false, false, false, false, false, false, false, false, false, false, false, false, false, false, false, false, false, false, false, false, false, false, false, false] (by kernel_rfl) rfl (by rfl) (by rfl) (by rfl) (by go_simp) ((CL.out _).mono ?_)
  rintro e w4 ⟨rfl, hb4⟩
  refine ⟨_, rfl, hHeld.trans (hb4.mono hHeld.size), fun hHeld => ?_⟩
  simp only [Act.put, List.setIfInBounds_toArray, List.set_cons_zero, List.set_cons_succ]
  refine held_take (v := ?_) 3 15 [true, true, true, true, false, false, false, false, false, false, false, false, false, false, false, false, false, false, false, false, false, false, false, false, false, false, false, false, false, false, false, false, false, false, false, false] rfl (by rfl) (by rfl) (by kernel_rfl) (by kernel_rfl) (by kernel_rfl) (by rfl) (fun _ _ _ h => h) ?_ hHeld ?_
  rotate_left
  · intro w hSw; go_simp <;> with_reducible rfl
  simp only [Act.put, List.setIfInBounds_toArray, List.set_cons_zero, List.set_cons_succ]
  refine held_take (v := ?_) 4 16 [true, true, true, true, true, false, false, false, false, false, false, false, false, false, false, false, false, false, false, false, false, false, false, false, false, false, false, false, false, false, false, false, false, false, false, false] rfl (by rfl) (by rfl) (by kernel_rfl) (by kernel_rfl) (by kernel_rfl) (by rfl) (fun _ _ _ h => h) ?_ hHeld ?_
  rotate_left
  · intro w hSw; go_simp <;> with_reducible rfl
  simp only [Act.put, List.setIfInBounds_toArray, List.set_cons_zero, List.set_cons_succ]
  refine held_take (v := ?_) 5 17 [true, true, true, true, true, true, false, false, false, false, false, false, false, false, false, false, false, false, false, false, false, false, false, false, false, false, false, false, false, false, false, false, false, false, false, false] rfl (by rfl) (by rfl) (by kernel_rfl) (by kernel_rfl) (by kernel_rfl) (by rfl) (fun _ _ _ h => h) ?_ hHeld ?_
  rotate_left
  · intro w hSw; go_simp <;> with_reducible rfl
  simp only [Act.put, List.setIfInBounds_toArray, List.set_cons_zero, List.set_cons_succ]
  refine held_take (v := ?_) 6 18 [true, true, true, true, true, true, true, false, false, false, false, false, false, false, false, false, false, false, false, false, false, false, false, false, false, false, false, false, false, false, false, false, false, false, false, false] rfl (by rfl) (by rfl) (by kernel_rfl) (by kernel_rfl) (by kernel_rfl) (by rfl) (fun _ _ _ h => h) ?_ hHeld ?_
  rotate_left
  · intro w hSw; go_simp <;> with_reducible rfl
  simp only [Act.put, List.setIfInBounds_toArray, List.set_cons_zero, List.set_cons_succ]
  refine held_take (v := ?_) 7 19 [true, true, true, true, true, true, true, true, false, false, false, false, false, false, false, false, false, false, false, false, false, false, false, false, false, false, false, false, false, false, false, false, false, false, false, false] rfl (by rfl) (by rfl) (by kernel_rfl) (by kernel_rfl) (by kernel_rfl) (by rfl) (fun _ _ _ h => h) ?_ hHeld ?_
  rotate_left
  · intro w hSw; go_simp <;> with_reducible rfl
  simp only [Act.put, List.setIfInBounds_toArray, List.set_cons_zero, List.set_cons_succ]
  refine held_take (v := ?_) 8 20 [true, true, true, true, true, true, true, true, true, false, false, false, false, false, false, false, false, false, false, false, false, false, false, false, false, false, false, false, false, false, false, false, false, false, false, false] rfl (by rfl) (by rfl) (by kernel_rfl) (by kernel_rfl) (by kernel_rfl) (by rfl) (fun _ _ _ h => h) ?_ hHeld ?_
  rotate_left
  · intro w hSw; go_simp <;> with_reducible rfl
  simp only [Act.put, List.setIfInBounds_toArray, List.set_cons_zero, List.set_cons_succ]
  refine held_take (v := ?_) 9 21 [true, true, true, true, true, true, true, true, true, true, false, false, false, false, false, false, false, false, false, false, false, false, false, false, false, false, false, false, false, false, false, false, false, false, false, false] rfl (by rfl) (by rfl) (by kernel_rfl) (by kernel_rfl) (by kernel_rfl) (by rfl) (fun _ _ _ h => h) ?_ hHeld ?_
  rotate_left
  · intro w hSw; go_simp <;> with_reducible rfl
  simp only [Act.put, List.setIfInBounds_toArray, List.set_cons_zero, List.set_cons_succ]
  refine held_take (v := .pointer (some ⟨g, 0, none⟩)) 10 22 [true, true, true, true, true, true, true, true, true, true, true, false, false, false, false, false, false, false, false, false, false, false, false, false, false, false, false, false, false, false, false, false, false, false, false, false] rfl (by rfl) (by rfl) (by kernel_rfl) (by kernel_rfl) (by kernel_rfl) (by rfl) (fun _ _ _ h => h) (fun w' h => by first | (go_simp; done) | (go_simp; rfl)) hHeld ?_
  simp only [Act.put, List.setIfInBounds_toArray, List.set_cons_zero, List.set_cons_succ]
  refine held_take (v := .agg #[.int .i64 2, .int .i64 1, .int .i64 3, .int .i64 0, .int .i64 0, .int .i64 0, .int .i64 0, .int .i64 0, .int .i64 0]) 11 23 [true, true, true, true, true, true, true, true, true, true, true, true, false, false, false, false, false, false, false, false, false, false, false, false, false, false, false, false, false, false, false, false, false, false, false, false] rfl (by rfl) (by rfl) (by kernel_rfl) (by kernel_rfl) (by kernel_rfl) (by rfl) (fun _ _ _ h => h) (fun w' h => run_op_load rfl rfl ((HR.out.keep h HR.out.lt).range 0 (#[.int .i64 2, .int .i64 1, .int .i64 3, .int .i64 0, .int .i64 0, .int .i64 0, .int .i64 0, .int .i64 0, .int .i64 0] : Array Value).toList (by first | rfl | exact ER.out)) Try.underlying25 rfl rfl) hHeld ?_
  simp only [Act.put, List.setIfInBounds_toArray, List.set_cons_zero, List.set_cons_succ]
  refine held_take (v := .agg #[.int .i64 2, .int .i64 1, .int .i64 3, .int .i64 0, .int .i64 0, .int .i64 0, .int .i64 0, .int .i64 0, .int .i64 0]) 12 24 [true, true, true, true, true, true, true, true, true, true, true, true, true, false, false, false, false, false, false, false, false, false, false, false, false, false, false, false, false, false, false, false, false, false, false, false] rfl (by rfl) (by rfl) (by kernel_rfl) (by kernel_rfl) (by kernel_rfl) (by rfl) (fun _ _ _ h => h) (fun w' h => run_op_load rfl rfl ((HA.out.keep h HA.out.lt).range 0 (#[.int .i64 2, .int .i64 1, .int .i64 3, .int .i64 0, .int .i64 0, .int .i64 0, .int .i64 0, .int .i64 0, .int .i64 0] : Array Value).toList (by first | rfl | exact ER.out)) Try.underlying25 rfl rfl) hHeld ?_
  simp only [Act.put, List.setIfInBounds_toArray, List.set_cons_zero, List.set_cons_succ]
  refine held_take (v := .bool true) 13 25 [true, true, true, true, true, true, true, true, true, true, true, true, true, true, false, false, false, false, false, false, false, false, false, false, false, false, false, false, false, false, false, false, false, false, false, false] rfl (by rfl) (by rfl) (by kernel_rfl) (by kernel_rfl) (by kernel_rfl) (by rfl) (fun _ _ _ h => h) (fun w' h => run_op_cmp rfl rfl rfl egCgS (NE.out w')) hHeld ?_
  simp only [Act.put, List.setIfInBounds_toArray, List.set_cons_zero, List.set_cons_succ]
  refine held_take (v := ?_) 14 26 [true, true, true, true, true, true, true, true, true, true, true, true, true, true, true, false, false, false, false, false, false, false, false, false, false, false, false, false, false, false, false, false, false, false, false, false] rfl (by rfl) (by rfl) (by kernel_rfl) (by kernel_rfl) (by kernel_rfl) (by rfl) (fun _ _ _ h => h) ?_ hHeld ?_
  rotate_left
  · intro w hSw; go_simp <;> with_reducible rfl
  simp only [Act.put, List.setIfInBounds_toArray, List.set_cons_zero, List.set_cons_succ]
  refine held_take (v := ?_) 15 27 [true, true, true, true, true, true, true, true, true, true, true, true, true, true, true, true, false, false, false, false, false, false, false, false, false, false, false, false, false, false, false, false, false, false, false, false] rfl (by rfl) (by rfl) (by kernel_rfl) (by kernel_rfl) (by kernel_rfl) (by rfl) (fun _ _ _ h => h) ?_ hHeld ?_
  rotate_left
  · intro w hSw; go_simp <;> with_reducible rfl
  simp only [Act.put, List.setIfInBounds_toArray, List.set_cons_zero, List.set_cons_succ]
  refine held_take (v := ?_) 16 28 [true, true, true, true, true, true, true, true, true, true, true, true, true, true, true, true, true, false, false, false, false, false, false, false, false, false, false, false, false, false, false, false, false, false, false, false] rfl (by rfl) (by rfl) (by kernel_rfl) (by kernel_rfl) (by kernel_rfl) (by rfl) (fun _ _ _ h => h) ?_ hHeld ?_
  rotate_left
  · intro w hSw; go_simp <;> with_reducible rfl
  simp only [Act.put, List.setIfInBounds_toArray, List.set_cons_zero, List.set_cons_succ]
  refine held_take (v := ?_) 17 29 [true, true, true, true, true, true, true, true, true, true, true, true, true, true, true, true, true, true, false, false, false, false, false, false, false, false, false, false, false, false, false, false, false, false, false, false] rfl (by rfl) (by rfl) (by kernel_rfl) (by kernel_rfl) (by kernel_rfl) (by rfl) (fun _ _ _ h => h) ?_ hHeld ?_
  rotate_left
  · intro w hSw; go_simp <;> with_reducible rfl
  simp only [Act.put, List.setIfInBounds_toArray, List.set_cons_zero, List.set_cons_succ]
  refine held_take (v := .agg #[.int .i64 0, .int .i64 1]) 18 30 [true, true, true, true, true, true, true, true, true, true, true, true, true, true, true, true, true, true, true, false, false, false, false, false, false, false, false, false, false, false, false, false, false, false, false, false] rfl (by rfl) (by rfl) (by kernel_rfl) (by kernel_rfl) (by kernel_rfl) (by rfl) (fun _ _ _ h => h) (fun w' h => run_op_load rfl rfl ((HK.out.keep h HK.out.lt).range 0 [.int .i64 0, .int .i64 1] (by first | rfl | exact ER.out)) Try.underlying23 rfl rfl) hHeld ?_
  simp only [Act.put, List.setIfInBounds_toArray, List.set_cons_zero, List.set_cons_succ]
  refine held_call 19 31 [true, true, true, true, true, true, true, true, true, true, true, true, true, true, true, true, true, true, true, true, false, false, false, false, false, false, false, false, false, false, false, false, false, false, false, false] (by kernel_rfl) rfl (by rfl) (by rfl) (by rfl) (by go_simp) ((CF.out _ hHeld).mono ?_)
  rintro e w4 ⟨rfl, hb4⟩
  refine ⟨_, rfl, hHeld.trans (hb4.mono hHeld.size), fun hHeld => ?_⟩
  simp only [Act.put, List.setIfInBounds_toArray, List.set_cons_zero, List.set_cons_succ]
  refine held_take (v := ?_) 20 32 [true, true, true, true, true, true, true, true, true, true, true, true, true, true, true, true, true, true, true, true, true, false, false, false, false, false, false, false, false, false, false, false, false, false, false, false] rfl (by rfl) (by rfl) (by kernel_rfl) (by kernel_rfl) (by kernel_rfl) (by rfl) (fun _ _ _ h => h) ?_ hHeld ?_
  rotate_left
  · intro w hSw; go_simp <;> with_reducible rfl
  simp only [Act.put, List.setIfInBounds_toArray, List.set_cons_zero, List.set_cons_succ]
  refine held_take (v := ?_) 21 33 [true, true, true, true, true, true, true, true, true, true, true, true, true, true, true, true, true, true, true, true, true, true, false, false, false, false, false, false, false, false, false, false, false, false, false, false] rfl (by rfl) (by rfl) (by kernel_rfl) (by kernel_rfl) (by kernel_rfl) (by rfl) (fun _ _ _ h => h) ?_ hHeld ?_
  rotate_left
  · intro w hSw; go_simp <;> with_reducible rfl
  simp only [Act.put, List.setIfInBounds_toArray, List.set_cons_zero, List.set_cons_succ]
  refine held_take (v := ?_) 22 34 [true, true, true, true, true, true, true, true, true, true, true, true, true, true, true, true, true, true, true, true, true, true, true, false, false, false, false, false, false, false, false, false, false, false, false, false] rfl (by rfl) (by rfl) (by kernel_rfl) (by kernel_rfl) (by kernel_rfl) (by rfl) (fun _ _ _ h => h) ?_ hHeld ?_
  rotate_left
  · intro w hSw; go_simp <;> with_reducible rfl
  simp only [Act.put, List.setIfInBounds_toArray, List.set_cons_zero, List.set_cons_succ]
  refine held_take (v := .agg #[.int .i64 2, .int .i64 1, .int .i64 3, .int .i64 0, .int .i64 0, .int .i64 0, .int .i64 0, .int .i64 0, .int .i64 0]) 23 35 [true, true, true, true, true, true, true, true, true, true, true, true, true, true, true, true, true, true, true, true, true, true, true, true, false, false, false, false, false, false, false, false, false, false, false, false] rfl (by rfl) (by rfl) (by kernel_rfl) (by kernel_rfl) (by kernel_rfl) (by rfl) (fun _ _ _ h => h) (fun w' h => run_op_load rfl rfl ((HA.out.keep h HA.out.lt).range 0 (#[.int .i64 2, .int .i64 1, .int .i64 3, .int .i64 0, .int .i64 0, .int .i64 0, .int .i64 0, .int .i64 0, .int .i64 0] : Array Value).toList (by first | rfl | exact ER.out)) Try.underlying25 rfl rfl) hHeld ?_
  simp only [Act.put, List.setIfInBounds_toArray, List.set_cons_zero, List.set_cons_succ]
  refine held_take (v := .agg #[.int .i64 0, .int .i64 1, .int .i64 4, .int .i64 0, .int .i64 0, .int .i64 0, .int .i64 0, .int .i64 0, .int .i64 0]) 24 36 [true, true, true, true, true, true, true, true, true, true, true, true, true, true, true, true, true, true, true, true, true, true, true, true, true, false, false, false, false, false, false, false, false, false, false, false] rfl (by rfl) (by rfl) (by kernel_rfl) (by kernel_rfl) (by kernel_rfl) (by rfl) (fun _ _ _ h => h) (fun w' h => run_op_load rfl rfl ((HK.out.keep h HK.out.lt).range 0 (#[.int .i64 0, .int .i64 1, .int .i64 4, .int .i64 0, .int .i64 0, .int .i64 0, .int .i64 0, .int .i64 0, .int .i64 0] : Array Value).toList (by first | rfl | exact ER.out)) Try.underlying25 rfl rfl) hHeld ?_
  simp only [Act.put, List.setIfInBounds_toArray, List.set_cons_zero, List.set_cons_succ]
  refine held_one 25 (by kernel_rfl) ?_
  have CN := Lib.hid (CLa.out w4)
  have hal := (Below.refl w4.heap.size w4).alloc (Nat.le_refl _) (.cells #[.int .i64 2, .int .i64 1, .int .i64 3, .int .i64 0, .int .i64 0, .int .i64 0, .int .i64 0, .int .i64 0, .int .i64 0, .int .i64 0, .int .i64 1, .int .i64 4, .int .i64 0, .int .i64 0, .int .i64 0, .int .i64 0, .int .i64 0, .int .i64 0] 25)
  refine op_value (v := .slice (some ⟨w4.heap.size, 0, none⟩) 2 2) 37 [true, true, true, true, true, true, true, true, true, true, true, true, true, true, true, true, true, true, true, true, true, true, true, true, true, true, false, false, false, false, false, false, false, false, false, false] rfl (by rfl) (by rfl) (by rfl) (by go_simp <;> rfl) (hHeld.trans (hal.mono hHeld.size)) fun hHeld => ?_
  simp only [Act.put, List.setIfInBounds_toArray, List.set_cons_zero, List.set_cons_succ]
  refine held_call 26 38 [true, true, true, true, true, true, true, true, true, true, true, true, true, true, true, true, true, true, true, true, true, true, true, true, true, true, true, false, false, false, false, false, false, false, false, false] (by kernel_rfl) rfl (by rfl) (by rfl) (by rfl) (by go_simp) ((CN.out).mono ?_)
  rintro e w4 ⟨rfl, hb4⟩
  refine ⟨_, rfl, hHeld.trans (hb4.mono hHeld.size), fun hHeld => ?_⟩
  simp only [Act.put, List.setIfInBounds_toArray, List.set_cons_zero, List.set_cons_succ]
  refine held_take (v := ?_) 27 39 [true, true, true, true, true, true, true, true, true, true, true, true, true, true, true, true, true, true, true, true, true, true, true, true, true, true, true, true, false, false, false, false, false, false, false, false] rfl (by rfl) (by rfl) (by kernel_rfl) (by kernel_rfl) (by kernel_rfl) (by rfl) (fun _ _ _ h => h) ?_ hHeld ?_
  rotate_left
  · intro w hSw; go_simp <;> with_reducible rfl
  simp only [Act.put, List.setIfInBounds_toArray, List.set_cons_zero, List.set_cons_succ]
  refine held_take (v := ?_) 28 40 [true, true, true, true, true, true, true, true, true, true, true, true, true, true, true, true, true, true, true, true, true, true, true, true, true, true, true, true, true, false, false, false, false, false, false, false] rfl (by rfl) (by rfl) (by kernel_rfl) (by kernel_rfl) (by kernel_rfl) (by rfl) (fun _ _ _ h => h) ?_ hHeld ?_
  rotate_left
  · intro w hSw; go_simp <;> with_reducible rfl
  simp only [Act.put, List.setIfInBounds_toArray, List.set_cons_zero, List.set_cons_succ]
  refine held_take (v := ?_) 29 41 [true, true, true, true, true, true, true, true, true, true, true, true, true, true, true, true, true, true, true, true, true, true, true, true, true, true, true, true, true, true, false, false, false, false, false, false] rfl (by rfl) (by rfl) (by kernel_rfl) (by kernel_rfl) (by kernel_rfl) (by rfl) (fun _ _ _ h => h) ?_ hHeld ?_
  rotate_left
  · intro w hSw; go_simp <;> with_reducible rfl
  simp only [Act.put, List.setIfInBounds_toArray, List.set_cons_zero, List.set_cons_succ]
  refine held_take (v := ?_) 30 42 [true, true, true, true, true, true, true, true, true, true, true, true, true, true, true, true, true, true, true, true, true, true, true, true, true, true, true, true, true, true, true, false, false, false, false, false] rfl (by rfl) (by rfl) (by kernel_rfl) (by kernel_rfl) (by kernel_rfl) (by rfl) (fun _ _ _ h => h) ?_ hHeld ?_
  rotate_left
  · intro w hSw; go_simp <;> with_reducible rfl
  simp only [Act.put, List.setIfInBounds_toArray, List.set_cons_zero, List.set_cons_succ]
  refine held_call 31 43 [true, true, true, true, true, true, true, true, true, true, true, true, true, true, true, true, true, true, true, true, true, true, true, true, true, true, true, true, true, true, true, true, false, false, false, false] (by kernel_rfl) rfl (by rfl) (by rfl) (by rfl) (by go_simp) ((CW.out _ hHeld).mono ?_)
  rintro e w4 ⟨g6, c6, rfl, hb4⟩
  refine ⟨_, rfl, hHeld.trans (hb4.mono hHeld.size), fun hHeld => ?_⟩
  simp only [Act.put, List.setIfInBounds_toArray, List.set_cons_zero, List.set_cons_succ]
  refine held_take (v := ?_) 32 44 [true, true, true, true, true, true, true, true, true, true, true, true, true, true, true, true, true, true, true, true, true, true, true, true, true, true, true, true, true, true, true, true, true, false, false, false] rfl (by rfl) (by rfl) (by kernel_rfl) (by kernel_rfl) (by kernel_rfl) (by rfl) (fun _ _ _ h => h) ?_ hHeld ?_
  rotate_left
  · intro w hSw; go_simp <;> with_reducible rfl
  simp only [Act.put, List.setIfInBounds_toArray, List.set_cons_zero, List.set_cons_succ]
  refine held_take (v := ?_) 33 45 [true, true, true, true, true, true, true, true, true, true, true, true, true, true, true, true, true, true, true, true, true, true, true, true, true, true, true, true, true, true, true, true, true, true, false, false] rfl (by rfl) (by rfl) (by kernel_rfl) (by kernel_rfl) (by kernel_rfl) (by rfl) (fun _ _ _ h => h) ?_ hHeld ?_
  rotate_left
  · intro w hSw; go_simp <;> with_reducible rfl
  simp only [Act.put, List.setIfInBounds_toArray, List.set_cons_zero, List.set_cons_succ]
  refine held_take (v := ?_) 34 46 [true, true, true, true, true, true, true, true, true, true, true, true, true, true, true, true, true, true, true, true, true, true, true, true, true, true, true, true, true, true, true, true, true, true, true, false] rfl (by rfl) (by rfl) (by kernel_rfl) (by kernel_rfl) (by kernel_rfl) (by rfl) (fun _ _ _ h => h) ?_ hHeld ?_
  rotate_left
  · intro w hSw; go_simp <;> with_reducible rfl
  simp only [Act.put, List.setIfInBounds_toArray, List.set_cons_zero, List.set_cons_succ]
  refine held_take (v := ?_) 35 0 [true, true, true, true, true, true, true, true, true, true, true, true, true, true, true, true, true, true, true, true, true, true, true, true, true, true, true, true, true, true, true, true, true, true, true, true] rfl (by rfl) (by rfl) (by kernel_rfl) (by kernel_rfl) (by kernel_rfl) (by rfl) (fun _ _ _ h => h) ?_ hHeld ?_
  rotate_left
  · intro w hSw; go_simp <;> with_reducible rfl
  simp only [Act.put, List.setIfInBounds_toArray, List.set_cons_zero, List.set_cons_succ]
  refine held_done (by kernel_rfl) ?_
  have HB9 := Lib.hid (HB2.out.trans (hHeld.mono HB2.out.size))
  clear hHeld
  go_wp2_with fail
  go_ret
  exact ⟨rfl, HB9.out⟩
end Go.Proofs.Ytbdonjapcpfgiaa
