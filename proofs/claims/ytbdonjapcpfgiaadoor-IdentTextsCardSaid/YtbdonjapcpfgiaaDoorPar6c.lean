/- ident.Parse at any other text. -/
import Derived.Test.YtbdonjapcpfgiaaDoorPar6
import Derived.Test.YtbdonjapcpfgiaaDoorMath6b
import Derived.Test.YtbdonjapcpfgiaaDoorCalls
import Derived.Deep.DeepCutAuto
import Derived.Maps.AppendAt
import Derived.Test.YtbdonjapcpfgiaaDoorRow
import Derived.Test.YtbdonjapcpfgiaaDoorOps
import Derived.RegionTactic
import Derived.BigRegion
import Derived.ChangeAlike
namespace Go.Proofs.YtbdonjapcpfgiaaDoor
set_option linter.unusedVariables false
set_option linter.unusedSimpArgs false
open Go.ChangeShapes Go.WideShapes Go.ChangeAt Go.RowKit
theorem str_iff (x y : ByteArray) : (x.toList == y.toList) = true ↔ x = y := by
  rw [beq_iff_eq, ByteArray.toList_eq, ByteArray.toList_eq]
  exact ⟨fun h => ByteArray.ext_iff.2 (Array.toList_inj.1 h), fun h => h ▸ rfl⟩
theorem str_ne {x y : ByteArray} (h : x ≠ y) : (x.toList == y.toList) = false := Bool.eq_false_iff.2 fun e => h ((str_iff x y).1 e)
theorem var_keep {n : String} {cs : Array Value} {w w' : World} (h : w.var? Tryd.prog n = some cs) (hb : Below w.heap.size w w') : w'.var? Tryd.prog n = some cs := by
  unfold World.var? at *
  revert h
  cases hg : Tryd.prog.globalNamed n with
  | none => exact fun h => h
  | some g =>
    intro h
    have hlt : g < w.heap.size := by
      rcases Nat.lt_or_ge g w.heap.size with hl | hl
      · exact hl
      · simp [Array.getElem?_eq_none hl] at h
    simpa [hb.block g hlt] using h
def ETab (w : World) : Prop := (∃ tp p, w.var? Tryd.prog "strconv.ErrSyntax" = some #[.iface tp p]) ∧ ∃ tp p, w.var? Tryd.prog "strconv.ErrRange" = some #[.iface tp p]
theorem ETab.keep {w w' : World} (h : ETab w) (hb : Below w.heap.size w w') : ETab w' := by
  obtain ⟨⟨t, p, h1⟩, t2, p2, h2⟩ := h
  exact ⟨⟨t, p, var_keep h1 hb⟩, t2, p2, var_keep h2 hb⟩
theorem atoi_all (s : ByteArray) (hs : s.size ≤ 281474976710656) (w : World) (hE : ETab w) : Calls Tryd.prog 27 #[.string s] w fun e w' => ∃ v e2, e = .returned (.tuple #[.int .i64 v, e2]) ∧ fits v = true ∧ Below w.heap.size w w' := by
  obtain ⟨⟨t, p, h1⟩, t2, p2, h2⟩ := hE
  cases h : Lib.atoiAll s.data.toList with
  | ok v =>
    refine (strconv_Atoi_ok s (by omega) v h w).mono ?_
    rintro e w' ⟨rfl, hw | ⟨t, rfl⟩⟩
    · subst hw; exact ⟨_, _, rfl, (fits_iff _).2 (Lib.atoiAll_bounds h), Below.refl _ _⟩
    · exact ⟨_, _, rfl, (fits_iff _).2 (Lib.atoiAll_bounds h), Lib.bytesWorld_below _ _ _⟩
  | «syntax» =>
    refine (strconv_Atoi_syntax_var s hs h t p w h1).mono ?_
    rintro e w' ⟨N, rfl, _, _, hb⟩
    exact ⟨_, _, rfl, by decide, hb⟩
  | range =>
    refine (strconv_Atoi_range_var s hs h t2 p2 w h2).mono ?_
    rintro e w' ⟨N, rfl, _, _, hb⟩
    exact ⟨_, _, rfl, (fits_iff _).2 (Lib.atoiSat_bounds _), hb⟩
theorem cut_any (s : ByteArray) (hs : s.size ≤ 281474976710656) (w : World) : Calls Tryd.prog 26 #[.string s, .string ⟨#[46]⟩] w fun e w' => ∃ s1 s2 b, e = .returned (.tuple #[.string s1, .string s2, .bool b]) ∧ s1.size ≤ s.size ∧ s2.size ≤ s.size ∧ Below w.heap.size w w' := by
  rcases index_cases s.data.toList 46 with h | ⟨i, h, hi⟩
  · refine (cut_no s 46 h w).mono ?_
    rintro e w' ⟨rfl, hb⟩
    exact ⟨_, _, _, rfl, Nat.le_refl _, Nat.zero_le _, hb⟩
  · have hi2 : i < s.size := by rw [Array.length_toList] at hi; exact hi
    refine (cut_yes s 46 i h hi2 (by omega) w).mono ?_
    rintro e w' ⟨rfl, hb⟩
    exact ⟨_, _, _, rfl, by rw [ByteArray.size_extract]; omega, by rw [ByteArray.size_extract]; omega, hb⟩
set_option maxHeartbeats 4000000 in
theorem parse_bad (s : ByteArray) (hs : s.size ≤ 281474976710656) (hno : ∀ p q, mayId p q = true → idB p q ≠ s) (w : World) (hT : PTab w) (hE : ETab w) : Calls Tryd.prog 17 #[.string s] w fun e w' => e = .returned (.tuple #[.agg #[.int .i64 0, .int .i64 0], .bool false]) ∧ Below w.heap.size w w' := by
  have HB := Lib.hid ((Below.refl w.heap.size w).alloc (Nat.le_refl _) (.cells #[.int .i64 0, .int .i64 0] 23))
  have A := Lib.hid (Blk.new w #[.int .i64 0, .int .i64 0] 23)
  have CC := Lib.hid (fun w => cut_any s hs w)
  have C1 := Lib.hid (fun s1 (h1 : s1.size ≤ s.size) w' (hb : Below w.heap.size w w') => atoi_all s1 (by omega) w' (hE.keep hb))
  have CM := Lib.hid (fun p q w => may_any p q w)
  have CX := Lib.hid (fun p q w' (fp : fits p = true) (fq : fits q = true) (hb : Below w.heap.size w w') => idtext_any p q w' fp fq (hT.keep hb))
  have HNO := Lib.hid hno
  clear hT hE hno hs
  go_enter Tryd.func17, Tryd.ntmps17
  go_upto_region 1 with fail
  generalize hg0 : w.heap.size = g0 at *
  have HG0 := Lib.hid hg0
  generalize w.alloc (.cells #[.int .i64 0, .int .i64 0] 23) = w1 at *
  clear hg0
  go_wp2_with fail
  refine (CC.out _).mono ?_
  rintro e w2 ⟨s1, s2, bb, rfl, z1, z2, hb⟩
  have HB2 := Lib.hid (HB.out.trans (hb.mono (HG0.out ▸ HB.out.size)))
  have A2 := Lib.hid (A.out.keep hb A.out.lt)
  have D1 := Lib.hid (C1.out s1 z1 w2 HB2.out)
  have D2 := Lib.hid (C1.out s2 z2)
  clear hb HB A CC C1 z1 z2
  go_wp2_with fail
  refine D1.out.mono ?_
  rintro e w3 ⟨p, e1, rfl, fp, hb⟩
  have FP := Lib.hid fp
  have HB3 := Lib.hid (HB2.out.trans (hb.mono (HG0.out ▸ HB2.out.size)))
  have A3 := Lib.hid (A2.out.keep hb A2.out.lt)
  have D3 := Lib.hid (D2.out w3 HB3.out)
  clear hb HB2 A2 D1 D2 fp
  go_wp2_with fail
  refine D3.out.mono ?_
  rintro e w4 ⟨q, e2, rfl, fq, hb⟩
  have FQ := Lib.hid fq
  have HB4 := Lib.hid (HB3.out.trans (hb.mono (HG0.out ▸ HB3.out.size)))
  have A4 := Lib.hid (A3.out.keep hb A3.out.lt)
  clear hb HB3 A3 D3 fq
  have D := Lib.hid (Blk.new w4 #[.int .i64 p, .int .i64 q] 23)
  have A5 := Lib.hid (A4.out.alloc (.cells #[.int .i64 p, .int .i64 q] 23))
  have HB5 := Lib.hid (HB4.out.alloc (HG0.out ▸ HB4.out.size) (.cells #[.int .i64 p, .int .i64 q] 23))
  clear HB4 A4
  have CM2 := Lib.hid (fun w => CM.out p q w)
  have HN2 := Lib.hid (HNO.out p q)
  have CX2 := Lib.hid (fun w' hb => CX.out p q w' FP.out FQ.out hb)
  clear CM HNO CX
  generalize mayId p q = mv at *
  generalize idB p q = SB at *
  go_upto_region 5 with fail
  generalize hg4 : w4.heap.size = g4 at *
  generalize w4.alloc (.cells #[.int .i64 p, .int .i64 q] 23) = w5 at *
  clear hg4
  have TI2 : RowT 23 (ints [p, q]).length := ⟨⟨_, Tryd.underlying23, rfl⟩, by kernel_rfl⟩
  have rx := D.out.range 0 (ints [p, q]) rfl
  go_wp2_with (first | ((with_reducible refine ld_row rx TI2 ?_ ?_ ?_); (· rfl); (· rfl); (simp only [Act.put, List.setIfInBounds_toArray, List.set_cons_zero, List.set_cons_succ])))
  refine (CM2.out _).mono ?_
  rintro e w6 ⟨rfl, hb⟩
  have HB6 := Lib.hid (HB5.out.trans (hb.mono (HG0.out ▸ HB5.out.size)))
  have A6 := Lib.hid (A5.out.keep hb A5.out.lt)
  have D6 := Lib.hid (D.out.keep hb D.out.lt)
  clear hb HB5 A5 D rx CM2
  have rx := D6.out.range 0 (ints [p, q]) rfl
  have CX6 := Lib.hid (CX2.out w6 HB6.out)
  have OZ : Hid (∀ u ∈ ints [0, 0], u.oneCell' = true) := Lib.hid fun u hu => ints_one hu
  have TZ : RowT 23 (ints [0, 0]).length := ⟨⟨_, Tryd.underlying23, rfl⟩, by kernel_rfl⟩
  have HLA : ((#[.int .i64 0, .int .i64 0] : Array Value).toList).length = (ints [0, 0]).length := rfl
  clear CX2
  cases mv
  · clear CX6 HN2
    have A8 := Lib.hid (A6.out.setAll (ints [0, 0]) rfl)
    have HB8 := Lib.hid (below_sets (B := g0) (Nat.le_refl _) (ints [0, 0]) 0 _ HB6.out)
    go_wp2_with (first
      | ((with_reducible refine st_row A6.out HLA TZ OZ.out ?_ ?_ ?_); (· rfl); (· rfl); (simp only [Act.put, List.setIfInBounds_toArray, List.set_cons_zero, List.set_cons_succ]); (generalize w6.setCells g0 0 (ints [0, 0]) = w8 at *)))
    have hge := HG0.out
    subst hge
    refine ret_cell_tmp (cs := ints [0, 0]) (v := .bool false) (p := 2) (q := 3) rfl rfl rfl A8.out Tryd.underlying23 rfl id_size rfl ?_
    exact ⟨rfl, HB8.out⟩
  · go_wp2_with (first | ((with_reducible refine ld_row rx TI2 ?_ ?_ ?_); (· rfl); (· rfl); (simp only [Act.put, List.setIfInBounds_toArray, List.set_cons_zero, List.set_cons_succ])))
    refine CX6.out.mono ?_
    rintro e w7 ⟨rfl, hb⟩
    have HB7 := Lib.hid (HB6.out.trans (hb.mono (HG0.out ▸ HB6.out.size)))
    have A7 := Lib.hid (A6.out.keep hb A6.out.lt)
    clear hb HB6 A6 D6 rx CX6
    have hne : SB ≠ s := by first | exact HN2.out rfl | exact HN2.out trivial
    have hne2 := str_ne hne
    have A8 := Lib.hid (A7.out.setAll (ints [0, 0]) rfl)
    have HB8 := Lib.hid (below_sets (B := g0) (Nat.le_refl _) (ints [0, 0]) 0 _ HB7.out)
    go_wp2_with (first
      | ((with_reducible refine st_row A7.out HLA TZ OZ.out ?_ ?_ ?_); (· rfl); (· rfl); (simp only [Act.put, List.setIfInBounds_toArray, List.set_cons_zero, List.set_cons_succ]); (generalize w7.setCells g0 0 (ints [0, 0]) = w8 at *)))
    have hge := HG0.out
    subst hge
    refine ret_cell_tmp (cs := ints [0, 0]) (v := .bool false) (p := 2) (q := 3) rfl rfl rfl A8.out Tryd.underlying23 rfl id_size rfl ?_
    exact ⟨rfl, HB8.out⟩
end Go.Proofs.YtbdonjapcpfgiaaDoor
