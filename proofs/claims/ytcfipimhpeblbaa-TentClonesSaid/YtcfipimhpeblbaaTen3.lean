/- Tent.First; something lives. -/
import Derived.Test.YtcfipimhpeblbaaTen2
import Derived.Lib.SliceRun
import Derived.Deep.DeepCutAuto
import Derived.Maps.AppendAt
import Derived.Test.YtcfipimhpeblbaaRow
import Derived.Test.YtcfipimhpeblbaaOps
import Derived.RegionTactic
import Derived.BigRegion
import Derived.ChangeAlike
namespace Go.Proofs.Ytcfipimhpeblbaa
set_option linter.unusedVariables false
set_option linter.unusedSimpArgs false
open Go.ChangeShapes Go.WideShapes Go.ChangeAt Go.RowKit
theorem Tn.drew_ {w : World} {g n c : Nat} {a : Option Addr} {L : List Int} (T : Tn w g a n c L) : Tn w.drew g a n c L := ⟨T.b.drew, T.s.keep (Below.refl _ _).drew, T.z, T.nc⟩
set_option maxHeartbeats 2000000 in
theorem tfirst_yes {{w : World}} {{g n c : Nat}} {{a : Option Addr}} {{L : List Int}} (T : Hid (Tn w g a n c L)) (hn : 0 < n) : Calls Try.prog 13 #[.pointer (some ⟨g, 0, none⟩)] w fun e w' => e = .returned (.tuple #[.agg (ints (rAt 9 L 0)).toArray, .bool true]) ∧ Below w.heap.size w w' := by
  have HB := Lib.hid ((Below.refl w.heap.size w).alloc (Nat.le_refl _) (.cells #[.int .i64 0, .int .i64 0, .int .i64 0, .int .i64 0, .int .i64 0, .int .i64 0, .int .i64 0, .int .i64 0, .int .i64 0] 36))
  have A1 : Hid (Blk (w.alloc (.cells #[.int .i64 0, .int .i64 0, .int .i64 0, .int .i64 0, .int .i64 0, .int .i64 0, .int .i64 0, .int .i64 0, .int .i64 0] 36)) w.heap.size (#[.int .i64 0, .int .i64 0, .int .i64 0, .int .i64 0, .int .i64 0, .int .i64 0, .int .i64 0, .int .i64 0, .int .i64 0] : Array Value).toList 36) := Lib.hid (Blk.new w #[.int .i64 0, .int .i64 0, .int .i64 0, .int .i64 0, .int .i64 0, .int .i64 0, .int .i64 0, .int .i64 0, .int .i64 0] 36)
  have T1 := Lib.hid (T.out.keep HB.out)
  have HL : L.length = n * 9 := by have := T.out.s.1; rwa [ints_len] at this
  have LN := Lib.hid (fun w' (h : Tn w' g a n c L) => tlen_any (Lib.hid h))
  go_enter Try.func13, Try.ntmps13
  go_upto_region 1 with fail
  generalize hg0 : w.heap.size = g0 at *
  have HG0 := Lib.hid hg0
  generalize w.alloc (.cells #[.int .i64 0, .int .i64 0, .int .i64 0, .int .i64 0, .int .i64 0, .int .i64 0, .int .i64 0, .int .i64 0, .int .i64 0] 36) = w1 at *
  clear hg0
  go_wp2_with fail
  refine (LN.out _ T1.out).mono ?_
  rintro e w2 ⟨rfl, rfl⟩
  obtain ⟨b, off, rfl, hlc, hra0⟩ := rAt_at T1.out.s hn
  have hra : w1.rangeAt b off (ints (rAt 9 L 0)) := by
    have := hra0
    rwa [Nat.zero_mul, Nat.add_zero] at this
  have TO : RowT 36 (ints (rAt 9 L 0)).length := by rw [ints_len, rAt_len HL hn]; exact rowChg
  have OX : Hid (∀ u ∈ ints (rAt 9 L 0), u.oneCell' = true) := Lib.hid fun u hu => ints_one hu
  have LX : (ints (rAt 9 L 0)).length = 9 := by rw [ints_len, rAt_len HL hn]
  have HLA : ((#[.int .i64 0, .int .i64 0, .int .i64 0, .int .i64 0, .int .i64 0, .int .i64 0, .int .i64 0, .int .i64 0, .int .i64 0] : Array Value).toList).length = (ints (rAt 9 L 0)).length := LX.symm
  have RS : Hid ((Try.prog.info? 36).map (·.size) = some (ints (rAt 9 L 0)).length) := Lib.hid TO.2
  have A8 := Lib.hid (A1.out.setAll (ints (rAt 9 L 0)) HLA.symm)
  have HB8 := Lib.hid (below_sets (B := g0) (Nat.le_refl _) (ints (rAt 9 L 0)) 0 _ HB.out)
  have hc0 := T1.out.b.cell 0
  have hnz : ((n : Int) == 0) = false := by simp; omega
  have hnI : (0 : Int) < n := by omega
  generalize hX : ints (rAt 9 L 0) = X at *
  have HX := Lib.hid hX
  clear hra0 hlc LN HL hX
  go_wp2_with (first
    | ((with_reducible refine ld_row hra TO ?_ ?_ ?_); (· rfl); (· rfl); (simp only [Act.put, List.setIfInBounds_toArray, List.set_cons_zero, List.set_cons_succ]))
    | ((with_reducible refine st_row A1.out HLA TO OX.out ?_ ?_ ?_); (· rfl); (· rfl); (simp only [Act.put, List.setIfInBounds_toArray, List.set_cons_zero, List.set_cons_succ]); (generalize w1.setCells g0 0 X = w8 at *)))
  have hge := HG0.out
  subst hge
  refine ret_cell_tmp (cs := X) (v := .bool true) (p := 2) (q := 3) rfl rfl rfl A8.out Try.underlying36 rfl RS.out rfl ?_
  exact ⟨by rw [HX.out], HB8.out⟩
theorem t18_less : lessC [0, 1, 1, 0, 0, 0, 0, 0, 0] [0, 2, 2, 0, 0, 0, 0, 0, 0] = true := by decide
theorem t18_p1 : putC [] 0 [0, 2, 2, 0, 0, 0, 0, 0, 0] = [0, 2, 2, 0, 0, 0, 0, 0, 0] := by decide
theorem t18_p2 : putC [0, 2, 2, 0, 0, 0, 0, 0, 0] 1 [0, 1, 1, 0, 0, 0, 0, 0, 0] = [0, 1, 1, 0, 0, 0, 0, 0, 0] ++ [0, 2, 2, 0, 0, 0, 0, 0, 0] := by decide
theorem t18_i1 : idxC [] (idR [0, 2, 2, 0, 0, 0, 0, 0, 0]) (idQ [0, 2, 2, 0, 0, 0, 0, 0, 0]) 0 < 0 := by decide
theorem t18_i2 : idxC [0, 2, 2, 0, 0, 0, 0, 0, 0] (idR [0, 1, 1, 0, 0, 0, 0, 0, 0]) (idQ [0, 1, 1, 0, 0, 0, 0, 0, 0]) 1 < 0 := by decide
theorem t18_i3 : 0 ≤ idxC ([0, 1, 1, 0, 0, 0, 0, 0, 0] ++ [0, 2, 2, 0, 0, 0, 0, 0, 0]) (idR [0, 1, 1, 0, 0, 0, 0, 0, 0]) (idQ [0, 1, 1, 0, 0, 0, 0, 0, 0]) 2 := by decide
theorem t18_f1 : freeV ([0, 1, 1, 0, 0, 0, 0, 0, 0] ++ [0, 2, 2, 0, 0, 0, 0, 0, 0]) 0 1 2 = true := by decide
theorem t18_f2 : freeV ([0, 1, 1, 0, 0, 0, 0, 0, 0] ++ [0, 2, 2, 0, 0, 0, 0, 0, 0]) 0 2 2 = false := by decide
theorem t18_FF (w : World) (g : Nat) (a : Option Addr) (c : Nat) (t : Tn w g a 2 c ([0, 1, 1, 0, 0, 0, 0, 0, 0] ++ [0, 2, 2, 0, 0, 0, 0, 0, 0])) : Calls Try.prog 17 #[.pointer (some ⟨g, 0, none⟩), .agg #[.int .i64 0, .int .i64 1]] w fun e w' => e = .returned (.bool true) ∧ Below w.heap.size w w' := by
  have := tfree_any (Lib.hid t) 0 1 (Lib.hid (fits_all _ (by decide))) (by decide) (by decide) (by decide)
  rw [t18_f1] at this
  exact this
theorem t18_FG (w : World) (g : Nat) (a : Option Addr) (c : Nat) (t : Tn w g a 2 c ([0, 1, 1, 0, 0, 0, 0, 0, 0] ++ [0, 2, 2, 0, 0, 0, 0, 0, 0])) : Calls Try.prog 17 #[.pointer (some ⟨g, 0, none⟩), .agg #[.int .i64 0, .int .i64 2]] w fun e w' => e = .returned (.bool false) ∧ Below w.heap.size w w' := by
  have := tfree_any (Lib.hid t) 0 2 (Lib.hid (fits_all _ (by decide))) (by decide) (by decide) (by decide)
  rw [t18_f2] at this
  exact this
theorem t18_P1 (w : World) (g : Nat) (t : Tn w g none 0 0 []) : Calls Try.prog 16 #[.pointer (some ⟨g, 0, none⟩), .agg #[.int .i64 0, .int .i64 2, .int .i64 2, .int .i64 0, .int .i64 0, .int .i64 0, .int .i64 0, .int .i64 0, .int .i64 0]] w fun e w' => e = .returned (.bool true) ∧ (∃ a' c', Tn w' g a' 1 c' [0, 2, 2, 0, 0, 0, 0, 0, 0]) ∧ Only (fun k => k = g) w w' := by
  have := tput_yes (Lib.hid t) [0, 2, 2, 0, 0, 0, 0, 0, 0] rfl (Lib.hid (fits_all _ (by decide))) (fits_all _ (by decide)) (by decide) t18_i1
  rw [t18_p1] at this
  exact this
theorem t18_P2 (w : World) (g : Nat) (a : Option Addr) (c : Nat) (t : Tn w g a 1 c [0, 2, 2, 0, 0, 0, 0, 0, 0]) : Calls Try.prog 16 #[.pointer (some ⟨g, 0, none⟩), .agg #[.int .i64 0, .int .i64 1, .int .i64 1, .int .i64 0, .int .i64 0, .int .i64 0, .int .i64 0, .int .i64 0, .int .i64 0]] w fun e w' => e = .returned (.bool true) ∧ (∃ a' c', Tn w' g a' 2 c' ([0, 1, 1, 0, 0, 0, 0, 0, 0] ++ [0, 2, 2, 0, 0, 0, 0, 0, 0])) ∧ Only (fun k => k = g) w w' := by
  have := tput_yes (Lib.hid t) [0, 1, 1, 0, 0, 0, 0, 0, 0] rfl (Lib.hid (fits_all _ (by decide))) (fits_all _ (by decide)) (by decide) t18_i2
  rw [t18_p2] at this
  exact this
theorem t18_P3 (w : World) (g : Nat) (a : Option Addr) (c : Nat) (t : Tn w g a 2 c ([0, 1, 1, 0, 0, 0, 0, 0, 0] ++ [0, 2, 2, 0, 0, 0, 0, 0, 0])) : Calls Try.prog 16 #[.pointer (some ⟨g, 0, none⟩), .agg #[.int .i64 0, .int .i64 1, .int .i64 1, .int .i64 0, .int .i64 0, .int .i64 0, .int .i64 0, .int .i64 0, .int .i64 0]] w fun e w' => e = .returned (.bool false) ∧ Below w.heap.size w w' := by
  exact tput_no (Lib.hid t) [0, 1, 1, 0, 0, 0, 0, 0, 0] rfl (Lib.hid (fits_all _ (by decide))) (fits_all _ (by decide)) (by decide) t18_i3
theorem t18_F1 (w : World) (g : Nat) (a : Option Addr) (c : Nat) (t : Tn w g a 2 c ([0, 1, 1, 0, 0, 0, 0, 0, 0] ++ [0, 2, 2, 0, 0, 0, 0, 0, 0])) : Calls Try.prog 13 #[.pointer (some ⟨g, 0, none⟩)] w fun e w' => e = .returned (.tuple #[.agg #[.int .i64 0, .int .i64 1, .int .i64 1, .int .i64 0, .int .i64 0, .int .i64 0, .int .i64 0, .int .i64 0, .int .i64 0], .bool true]) ∧ Below w.heap.size w w' :=
  tfirst_yes (Lib.hid t) (by decide)
theorem t18_E (w : World) : (binOp .eql 36 (.agg #[.int .i64 0, .int .i64 1, .int .i64 1, .int .i64 0, .int .i64 0, .int .i64 0, .int .i64 0, .int .i64 0, .int .i64 0]) (.agg #[.int .i64 0, .int .i64 1, .int .i64 1, .int .i64 0, .int .i64 0, .int .i64 0, .int .i64 0, .int .i64 0, .int .i64 0])).run Try.prog w = .ok (.bool true) w := cg_eqlS [0, 1, 1, 0, 0, 0, 0, 0, 0] rfl (fits_all _ (by decide)) w
set_option maxRecDepth 100000 in
set_option maxHeartbeats 4000000 in
theorem alive18 (w : World) : Calls Try.prog 6 #[] w fun e w' => e = .returned (.bool true) ∧ Below w.heap.size w w' := by
  obtain ⟨wt, hwt⟩ : ∃ wt, wt = w.alloc (.cells #[.slice none 0 0] 29) := ⟨_, rfl⟩
  obtain ⟨wa, hwa⟩ : ∃ wa, wa = wt.alloc (.cells #[.int .i64 0, .int .i64 1, .int .i64 1, .int .i64 0, .int .i64 0, .int .i64 0, .int .i64 0, .int .i64 0, .int .i64 0] 36) := ⟨_, rfl⟩
  obtain ⟨wb, hwb⟩ : ∃ wb, wb = wa.alloc (.cells #[.int .i64 0, .int .i64 2, .int .i64 2, .int .i64 0, .int .i64 0, .int .i64 0, .int .i64 0, .int .i64 0, .int .i64 0] 36) := ⟨_, rfl⟩
  have s1 : wt.heap.size = w.heap.size + 1 := by rw [hwt]; simp
  have s2 : wa.heap.size = w.heap.size + 1 + 1 := by rw [hwa]; simp [s1]
  have b1 : Below w.heap.size w wt := hwt ▸ (Below.refl _ _).alloc (Nat.le_refl _) _
  have b2 : Below w.heap.size w wa := hwa ▸ b1.alloc b1.size _
  have HBB : Hid (Below w.heap.size w wb) := Lib.hid (hwb ▸ b2.alloc b2.size _)
  have T1 : Blk wt w.heap.size [.slice none 0 0] 29 := hwt ▸ Blk.new w #[.slice none 0 0] 29
  have T0 : Hid (Tn wb w.heap.size none 0 0 []) := Lib.hid ⟨hwb ▸ (hwa ▸ T1.alloc _).alloc _, ⟨rfl, Or.inl rfl⟩, fun _ => rfl, Nat.le_refl _⟩
  have A1 : Blk wa (w.heap.size + 1) (#[.int .i64 0, .int .i64 1, .int .i64 1, .int .i64 0, .int .i64 0, .int .i64 0, .int .i64 0, .int .i64 0, .int .i64 0] : Array Value).toList 36 := s1 ▸ (hwa ▸ Blk.new wt #[.int .i64 0, .int .i64 1, .int .i64 1, .int .i64 0, .int .i64 0, .int .i64 0, .int .i64 0, .int .i64 0, .int .i64 0] 36)
  have HA : Hid (Blk wb (w.heap.size + 1) (#[.int .i64 0, .int .i64 1, .int .i64 1, .int .i64 0, .int .i64 0, .int .i64 0, .int .i64 0, .int .i64 0, .int .i64 0] : Array Value).toList 36) := Lib.hid (hwb ▸ A1.alloc _)
  have HK : Hid (Blk wb (w.heap.size + 1 + 1) (#[.int .i64 0, .int .i64 2, .int .i64 2, .int .i64 0, .int .i64 0, .int .i64 0, .int .i64 0, .int .i64 0, .int .i64 0] : Array Value).toList 36) := Lib.hid (s2 ▸ (hwb ▸ Blk.new wa #[.int .i64 0, .int .i64 2, .int .i64 2, .int .i64 0, .int .i64 0, .int .i64 0, .int .i64 0, .int .i64 0, .int .i64 0] 36))
  have HWB : Hid (wb = ((w.alloc (.cells #[.slice none 0 0] 29)).alloc (.cells #[.int .i64 0, .int .i64 1, .int .i64 1, .int .i64 0, .int .i64 0, .int .i64 0, .int .i64 0, .int .i64 0, .int .i64 0] 36)).alloc (.cells #[.int .i64 0, .int .i64 2, .int .i64 2, .int .i64 0, .int .i64 0, .int .i64 0, .int .i64 0, .int .i64 0, .int .i64 0] 36)) := Lib.hid (by rw [hwb, hwa, hwt])
  have P1 := Lib.hid (fun w' (t : Hid (Tn w' w.heap.size none 0 0 [])) => t18_P1 w' w.heap.size t.out)
  have P2 := Lib.hid (fun w' a c (t : Hid (Tn w' w.heap.size a 1 c [0, 2, 2, 0, 0, 0, 0, 0, 0])) => t18_P2 w' w.heap.size a c t.out)
  clear hwt hwa hwb s1 s2 b1 b2 T1 A1
  go_enter Try.func6, Try.ntmps6
  go_upto_region 3 with fail
  rw [← HWB.out]
  clear HWB
  generalize hg : w.heap.size = g at *
  have HG := Lib.hid hg
  have NA : Hid (¬ g + 1 = g) := Lib.hid (by omega)
  have NK : Hid (¬ g + 1 + 1 = g) := Lib.hid (by omega)
  generalize wb = w2 at *
  clear hg
  refine held_begin (fun w' => Only (fun k => k = g) w2 w') 8 [false, false, false, false, false, false, false, false] (by kernel_rfl) rfl (by rfl) ?_
  have hHeld : Only (fun k => k = g) w2 w2.drew := (Only.refl _ _).drew
  refine held_take (v := ?_) 0 14 [true, false, false, false, false, false, false, false] rfl (by rfl) (by rfl) (by kernel_rfl) (by kernel_rfl) (by kernel_rfl) (by rfl) (fun _ _ _ h => h) ?_ hHeld ?_
  rotate_left
  · intro w hSw; go_simp <;> with_reducible rfl
  simp only [Act.put, List.setIfInBounds_toArray, List.set_cons_zero, List.set_cons_succ]
  refine held_take (v := .agg #[.int .i64 0, .int .i64 2, .int .i64 2, .int .i64 0, .int .i64 0, .int .i64 0, .int .i64 0, .int .i64 0, .int .i64 0]) 1 15 [true, true, false, false, false, false, false, false] rfl (by rfl) (by rfl) (by kernel_rfl) (by kernel_rfl) (by kernel_rfl) (by rfl) (fun _ _ _ h => h) (fun w' h => run_op_load rfl rfl ((HK.out.only h NK.out).range 0 (#[.int .i64 0, .int .i64 2, .int .i64 2, .int .i64 0, .int .i64 0, .int .i64 0, .int .i64 0, .int .i64 0, .int .i64 0] : Array Value).toList rfl) Try.underlying36 rfl rfl) hHeld ?_
  simp only [Act.put, List.setIfInBounds_toArray, List.set_cons_zero, List.set_cons_succ]
  refine held_take (v := ?_) 3 17 [true, true, false, true, false, false, false, false] rfl (by rfl) (by rfl) (by kernel_rfl) (by kernel_rfl) (by kernel_rfl) (by rfl) (fun _ _ _ h => h) ?_ hHeld ?_
  rotate_left
  · intro w hSw; go_simp <;> with_reducible rfl
  simp only [Act.put, List.setIfInBounds_toArray, List.set_cons_zero, List.set_cons_succ]
  refine held_take (v := .agg #[.int .i64 0, .int .i64 1, .int .i64 1, .int .i64 0, .int .i64 0, .int .i64 0, .int .i64 0, .int .i64 0, .int .i64 0]) 4 18 [true, true, false, true, true, false, false, false] rfl (by rfl) (by rfl) (by kernel_rfl) (by kernel_rfl) (by kernel_rfl) (by rfl) (fun _ _ _ h => h) (fun w' h => run_op_load rfl rfl ((HA.out.only h NA.out).range 0 (#[.int .i64 0, .int .i64 1, .int .i64 1, .int .i64 0, .int .i64 0, .int .i64 0, .int .i64 0, .int .i64 0, .int .i64 0] : Array Value).toList rfl) Try.underlying36 rfl rfl) hHeld ?_
  simp only [Act.put, List.setIfInBounds_toArray, List.set_cons_zero, List.set_cons_succ]
  have TD := Lib.hid T0.out.drew_
  generalize w2.drew = wD at *
  refine held_call 2 16 [true, true, true, true, true, false, false, false] (by kernel_rfl) rfl (by rfl) (by rfl) (by rfl) (by go_simp) ((P1.out _ TD).mono ?_)
  rintro e w4 ⟨rfl, ⟨a4, c4, t4⟩, ho4⟩
  refine ⟨_, rfl, hHeld.trans ho4, fun hHeld => ?_⟩
  simp only [Act.put, List.setIfInBounds_toArray, List.set_cons_zero, List.set_cons_succ]
  refine held_call 5 19 [true, true, true, true, true, true, false, false] (by kernel_rfl) rfl (by rfl) (by rfl) (by rfl) (by go_simp) ((P2.out _ a4 c4 (Lib.hid t4)).mono ?_)
  rintro e w5 ⟨rfl, ⟨a5, c5, t5⟩, ho5⟩
  refine ⟨_, rfl, hHeld.trans ho5, fun hHeld => ?_⟩
  simp only [Act.put, List.setIfInBounds_toArray, List.set_cons_zero, List.set_cons_succ]
  refine held_take (v := ?_) 6 4 [true, true, true, true, true, true, true, false] rfl (by rfl) (by rfl) (by kernel_rfl) (by kernel_rfl) (by kernel_rfl) (by rfl) (fun _ _ _ h => h) ?_ hHeld ?_
  rotate_left
  · intro w hSw; go_simp <;> with_reducible rfl
  simp only [Act.put, List.setIfInBounds_toArray, List.set_cons_zero, List.set_cons_succ]
  refine held_take (v := ?_) 7 5 [true, true, true, true, true, true, true, true] rfl (by rfl) (by rfl) (by kernel_rfl) (by kernel_rfl) (by kernel_rfl) (by rfl) (fun _ _ _ h => h) ?_ hHeld ?_
  rotate_left
  · intro w hSw; go_simp <;> with_reducible rfl
  simp only [Act.put, List.setIfInBounds_toArray, List.set_cons_zero, List.set_cons_succ]
  refine held_done (by kernel_rfl) ?_
  have HA5 := Lib.hid (HA.out.only hHeld NA.out)
  have HK5 := Lib.hid (HK.out.only hHeld NK.out)
  have T5 := Lib.hid t5
  have HB5 := Lib.hid (HBB.out.trans (hHeld.toBelow (fun k hk => hk ▸ Nat.le_refl _) (HG.out ▸ HBB.out.size)))
  clear hHeld HA HK HBB T0 TD t4 ho4 t5 ho5 P1 P2 NA NK
  have F1 := Lib.hid (t18_F1 w5 g a5 c5 T5.out)
  go_wp2_with fail
  refine F1.out.mono ?_
  rintro e w6 ⟨rfl, hb⟩
  have HA6 := Lib.hid (HA5.out.keep hb HA5.out.lt)
  have HK6 := Lib.hid (HK5.out.keep hb HK5.out.lt)
  have T6 := Lib.hid (T5.out.keep hb)
  have HB6 := Lib.hid (HB5.out.trans (hb.mono (HG.out ▸ HB5.out.size)))
  clear hb HA5 HK5 T5 HB5
  have T7 := Lib.hid (T6.out.keep ((Below.refl w6.heap.size w6).alloc (Nat.le_refl _) (.cells #[.int .i64 0, .int .i64 1, .int .i64 1, .int .i64 0, .int .i64 0, .int .i64 0, .int .i64 0, .int .i64 0, .int .i64 0] 36)))
  have HA7 := Lib.hid (HA6.out.alloc (.cells #[.int .i64 0, .int .i64 1, .int .i64 1, .int .i64 0, .int .i64 0, .int .i64 0, .int .i64 0, .int .i64 0, .int .i64 0] 36))
  have HK7 := Lib.hid (HK6.out.alloc (.cells #[.int .i64 0, .int .i64 1, .int .i64 1, .int .i64 0, .int .i64 0, .int .i64 0, .int .i64 0, .int .i64 0, .int .i64 0] 36))
  have HC7 : Hid (Blk (w6.alloc (.cells #[.int .i64 0, .int .i64 1, .int .i64 1, .int .i64 0, .int .i64 0, .int .i64 0, .int .i64 0, .int .i64 0, .int .i64 0] 36)) w6.heap.size (#[.int .i64 0, .int .i64 1, .int .i64 1, .int .i64 0, .int .i64 0, .int .i64 0, .int .i64 0, .int .i64 0, .int .i64 0] : Array Value).toList 36) := Lib.hid (Blk.new w6 #[.int .i64 0, .int .i64 1, .int .i64 1, .int .i64 0, .int .i64 0, .int .i64 0, .int .i64 0, .int .i64 0, .int .i64 0] 36)
  have HB7 := Lib.hid (HB6.out.alloc (HG.out ▸ HB6.out.size) (.cells #[.int .i64 0, .int .i64 1, .int .i64 1, .int .i64 0, .int .i64 0, .int .i64 0, .int .i64 0, .int .i64 0, .int .i64 0] 36))
  clear T6 HA6 HK6 HB6 F1
  go_upto_region 5 with fail
  generalize w6.heap.size = gc at *
  generalize w6.alloc (.cells #[.int .i64 0, .int .i64 1, .int .i64 1, .int .i64 0, .int .i64 0, .int .i64 0, .int .i64 0, .int .i64 0, .int .i64 0] 36) = w7 at *
  have TX : RowT 36 (#[.int .i64 0, .int .i64 1, .int .i64 1, .int .i64 0, .int .i64 0, .int .i64 0, .int .i64 0, .int .i64 0, .int .i64 0] : Array Value).toList.length := rowChg
  have TI : RowT 34 ([.int .i64 0, .int .i64 1] : List Value).length := rowIdS
  have TJ : RowT 34 ([.int .i64 0, .int .i64 2] : List Value).length := rowIdS
  have rA := HA7.out.range 0 (#[.int .i64 0, .int .i64 1, .int .i64 1, .int .i64 0, .int .i64 0, .int .i64 0, .int .i64 0, .int .i64 0, .int .i64 0] : Array Value).toList rfl
  have P3 := Lib.hid (t18_P3 w7 g a5 c5 T7.out)
  go_wp2_with (first
    | ((with_reducible refine ld_row rA TX ?_ ?_ ?_); (· rfl); (· rfl); (simp only [Act.put, List.setIfInBounds_toArray, List.set_cons_zero, List.set_cons_succ])))
  refine P3.out.mono ?_
  rintro e w8 ⟨rfl, hb⟩
  have HA8 := Lib.hid (HA7.out.keep hb HA7.out.lt)
  have HK8 := Lib.hid (HK7.out.keep hb HK7.out.lt)
  have T8 := Lib.hid (T7.out.keep hb)
  have HB8 := Lib.hid (HB7.out.trans (hb.mono (HG.out ▸ HB7.out.size)))
  have HC8 := Lib.hid (HC7.out.keep hb HC7.out.lt)
  clear rA P3 HC7 hb HA7 HK7 T7 HB7
  have rI := HA8.out.range 0 [.int .i64 0, .int .i64 1] rfl
  have P4 := Lib.hid (t18_FF w8 g a5 c5 T8.out)
  go_wp2_with (first
    | ((with_reducible refine ld_row rI TI ?_ ?_ ?_); (· rfl); (· rfl); (simp only [Act.put, List.setIfInBounds_toArray, List.set_cons_zero, List.set_cons_succ])))
  refine P4.out.mono ?_
  rintro e w9 ⟨rfl, hb⟩
  have HA9 := Lib.hid (HA8.out.keep hb HA8.out.lt)
  have HK9 := Lib.hid (HK8.out.keep hb HK8.out.lt)
  have T9 := Lib.hid (T8.out.keep hb)
  have HB9 := Lib.hid (HB8.out.trans (hb.mono (HG.out ▸ HB8.out.size)))
  have HC9 := Lib.hid (HC8.out.keep hb HC8.out.lt)
  clear rI P4 HC8 hb HA8 HK8 T8 HB8
  have rJ := HK9.out.range 0 [.int .i64 0, .int .i64 2] rfl
  have P5 := Lib.hid (t18_FG w9 g a5 c5 T9.out)
  go_wp2_with (first
    | ((with_reducible refine ld_row rJ TJ ?_ ?_ ?_); (· rfl); (· rfl); (simp only [Act.put, List.setIfInBounds_toArray, List.set_cons_zero, List.set_cons_succ])))
  refine P5.out.mono ?_
  rintro e w10 ⟨rfl, hb⟩
  have HA10 := Lib.hid (HA9.out.keep hb HA9.out.lt)
  have HK10 := Lib.hid (HK9.out.keep hb HK9.out.lt)
  have T10 := Lib.hid (T9.out.keep hb)
  have HB10 := Lib.hid (HB9.out.trans (hb.mono (HG.out ▸ HB9.out.size)))
  have HC10 := Lib.hid (HC9.out.keep hb HC9.out.lt)
  clear rJ P5 HC9 hb HA9 HK9 T9 HB9
  have rA := HA10.out.range 0 (#[.int .i64 0, .int .i64 1, .int .i64 1, .int .i64 0, .int .i64 0, .int .i64 0, .int .i64 0, .int .i64 0, .int .i64 0] : Array Value).toList rfl
  have rC := HC10.out.range 0 (#[.int .i64 0, .int .i64 1, .int .i64 1, .int .i64 0, .int .i64 0, .int .i64 0, .int .i64 0, .int .i64 0, .int .i64 0] : Array Value).toList rfl
  have P6 := Lib.hid (tlen_any T10)
  go_wp2_with (first
    | ((with_reducible refine ld_row rA TX ?_ ?_ ?_); (· rfl); (· rfl); (simp only [Act.put, List.setIfInBounds_toArray, List.set_cons_zero, List.set_cons_succ]))
    | ((with_reducible refine ld_row rC TX ?_ ?_ ?_); (· rfl); (· rfl); (simp only [Act.put, List.setIfInBounds_toArray, List.set_cons_zero, List.set_cons_succ]))
    | ((with_reducible refine cmp_row egCgS t18_E ?_ ?_ ?_ ?_); (· rfl); (· rfl); (· rfl); (simp only [Act.put, List.setIfInBounds_toArray, List.set_cons_zero, List.set_cons_succ])))
  refine P6.out.mono ?_
  rintro e w11 ⟨rfl, rfl⟩
  go_wp2_with fail
  go_ret
  have hge := HG.out
  subst hge
  exact ⟨rfl, HB10.out⟩
end Go.Proofs.Ytcfipimhpeblbaa
