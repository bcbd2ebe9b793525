/- ident.Parse. -/
import Derived.Test.YtbdonjapcpfgiaaDoorCut6
import Derived.Test.YtbdonjapcpfgiaaDoorIdn3
import Derived.Test.YtbdonjapcpfgiaaDoorLd
import Derived.Test.YtbdonjapcpfgiaaDoorMath6
import Derived.Test.YtbdonjapcpfgiaaDoorTxt
import Derived.Lib.LaidU8
import Derived.Deep.DeepCutAuto
import Derived.Maps.AppendAt
import Derived.Test.YtbdonjapcpfgiaaDoorRow
import Derived.Test.YtbdonjapcpfgiaaDoorOps
import Derived.RegionTactic
import Derived.BigRegion
import Derived.ChangeAlike
namespace Go.Proofs.YtbdonjapcpfgiaaDoor
set_option linter.unusedVariables false
set_option linter.unusedSimpArgs false
open Go.ChangeShapes Go.WideShapes Go.ChangeAt Go.RowKit
theorem idB_list (p q : Int) : idB p q = ⟨(Lib.itoa p ++ 46 :: Lib.itoa q).toArray⟩ := by
  unfold idB itB
  rw [ByteArray.ext_iff]
  simp [ByteArray.data_append]
theorem itB_dec {n : Int} (h : 0 ≤ n) : (itB n).data.toList = Lib.decDigits n.toNat := by unfold itB; rw [itoa_pos h]
theorem atoi_good (n : Int) (h0 : 0 ≤ n) (h1 : n < 9223372036854775808) (w : World) : Calls Tryd.prog 27 #[.string (itB n)] w fun e w' => e = .returned (.tuple #[.int .i64 n, .nilIface]) ∧ Below w.heap.size w w' := by
  refine (strconv_Atoi_ok (itB n) (by have := itB_small n ((fits_iff n).2 ⟨by omega, by omega⟩); omega) n (by rw [itB_dec h0, atoi_dec _ (by omega)]; congr 1; omega) w).mono ?_
  rintro e w' ⟨rfl, h | ⟨t, rfl⟩⟩
  · subst h; exact ⟨rfl, Below.refl _ _⟩
  · exact ⟨rfl, Lib.bytesWorld_below _ _ _⟩
theorem cut_good (p q : Int) (hp : 0 ≤ p) (hp2 : fits p = true) (hq2 : fits q = true) (w : World) : Calls Tryd.prog 26 #[.string (idB p q), .string ⟨#[46]⟩] w fun e w' => e = .returned (.tuple #[.string (itB p), .string (itB q), .bool true]) ∧ Below w.heap.size w w' := by
  have hs : (idB p q).size ≤ 43 := by
    have s1 := itB_small p hp2
    have s2 := itB_small q hq2
    unfold idB
    rw [ByteArray.size_append, ByteArray.size_append]
    show _ + 1 + _ ≤ _
    omega
  have hi : Lib.indexByte (idB p q).data.toList 46 = ((Lib.itoa p).length : Nat) := by
    rw [idB_list]
    refine index_at (Lib.itoa p) (Lib.itoa q) (fun b hb e => ?_)
    rw [itoa_pos hp] at hb
    have := dec_bytes _ b hb
    rw [e] at this
    exact absurd this.1 (by decide)
  have hlt : (Lib.itoa p).length < (idB p q).size := by rw [idB_list]; simp [ByteArray.size]
  have := cut_yes (idB p q) 46 (Lib.itoa p).length hi hlt (by omega) w
  rw [show (idB p q).extract 0 (Lib.itoa p).length = itB p by rw [idB_list]; exact ba_extract_lo _ _, show (idB p q).extract ((Lib.itoa p).length + 1) (idB p q).size = itB q by rw [idB_list]; exact ba_extract_hi _ _ _] at this
  exact this
set_option maxHeartbeats 4000000 in
theorem parse_good (p q : Int) (hm : mayId p q = true) (w : World) (hT : PTab w) : Calls Tryd.prog 17 #[.string (idB p q)] w fun e w' => e = .returned (.tuple #[.agg #[.int .i64 p, .int .i64 q], .bool true]) ∧ Below w.heap.size w w' := by
  obtain ⟨hp0, hp4, hq1, hq2⟩ := (mayId_iff p q).1 hm
  have fp : fits p = true := (fits_iff p).2 ⟨by omega, by omega⟩
  have fq : fits q = true := (fits_iff q).2 ⟨by omega, by omega⟩
  have HB := Lib.hid ((Below.refl w.heap.size w).alloc (Nat.le_refl _) (.cells #[.int .i64 0, .int .i64 0] 23))
  have A := Lib.hid (Blk.new w #[.int .i64 0, .int .i64 0] 23)
  have CC := Lib.hid (fun w => cut_good p q hp0 fp fq w)
  have C1 := Lib.hid (fun w => atoi_good p hp0 (by omega) w)
  have C2 := Lib.hid (fun w => atoi_good q (by omega) (by omega) w)
  have CM := Lib.hid (fun w => may_any p q w)
  rw [hm] at CM
  have CX := Lib.hid (fun w' (hb : Below w.heap.size w w') => idtext_any p q w' fp fq (hT.keep hb))
  clear hm hp0 hp4 hq1 hq2 fp fq hT
  go_enter Tryd.func17, Tryd.ntmps17
  go_upto_region 1 with fail
  generalize hg0 : w.heap.size = g0 at *
  have HG0 := Lib.hid hg0
  generalize w.alloc (.cells #[.int .i64 0, .int .i64 0] 23) = w1 at *
  clear hg0
  go_wp2_with fail
  refine (CC.out _).mono ?_
  rintro e w2 ⟨rfl, hb⟩
  have HB2 := Lib.hid (HB.out.trans (hb.mono (HG0.out ▸ HB.out.size)))
  have A2 := Lib.hid (A.out.keep hb A.out.lt)
  clear hb HB A CC
  go_wp2_with fail
  refine (C1.out _).mono ?_
  rintro e w3 ⟨rfl, hb⟩
  have HB3 := Lib.hid (HB2.out.trans (hb.mono (HG0.out ▸ HB2.out.size)))
  have A3 := Lib.hid (A2.out.keep hb A2.out.lt)
  clear hb HB2 A2 C1
  go_wp2_with fail
  refine (C2.out _).mono ?_
  rintro e w4 ⟨rfl, hb⟩
  have HB4 := Lib.hid (HB3.out.trans (hb.mono (HG0.out ▸ HB3.out.size)))
  have A4 := Lib.hid (A3.out.keep hb A3.out.lt)
  clear hb HB3 A3 C2
  have D := Lib.hid (Blk.new w4 #[.int .i64 p, .int .i64 q] 23)
  have A5 := Lib.hid (A4.out.alloc (.cells #[.int .i64 p, .int .i64 q] 23))
  have HB5 := Lib.hid (HB4.out.alloc (HG0.out ▸ HB4.out.size) (.cells #[.int .i64 p, .int .i64 q] 23))
  clear HB4 A4
  go_upto_region 5 with fail
  generalize hg4 : w4.heap.size = g4 at *
  generalize w4.alloc (.cells #[.int .i64 p, .int .i64 q] 23) = w5 at *
  clear hg4
  have TI2 : RowT 23 (ints [p, q]).length := ⟨⟨_, Tryd.underlying23, rfl⟩, by kernel_rfl⟩
  have rx := D.out.range 0 (ints [p, q]) rfl
  go_wp2_with (first | ((with_reducible refine ld_row rx TI2 ?_ ?_ ?_); (· rfl); (· rfl); (simp only [Act.put, List.setIfInBounds_toArray, List.set_cons_zero, List.set_cons_succ])))
  refine (CM.out _).mono ?_
  rintro e w6 ⟨rfl, hb⟩
  have HB6 := Lib.hid (HB5.out.trans (hb.mono (HG0.out ▸ HB5.out.size)))
  have A6 := Lib.hid (A5.out.keep hb A5.out.lt)
  have D6 := Lib.hid (D.out.keep hb D.out.lt)
  clear hb HB5 A5 D rx CM
  have rx := D6.out.range 0 (ints [p, q]) rfl
  have CX6 := Lib.hid (CX.out w6 HB6.out)
  clear CX
  go_wp2_with (first | ((with_reducible refine ld_row rx TI2 ?_ ?_ ?_); (· rfl); (· rfl); (simp only [Act.put, List.setIfInBounds_toArray, List.set_cons_zero, List.set_cons_succ])))
  refine CX6.out.mono ?_
  rintro e w7 ⟨rfl, hb⟩
  have HB7 := Lib.hid (HB6.out.trans (hb.mono (HG0.out ▸ HB6.out.size)))
  have A7 := Lib.hid (A6.out.keep hb A6.out.lt)
  have D7 := Lib.hid (D6.out.keep hb D6.out.lt)
  clear hb HB6 A6 D6 rx CX6
  have rx := D7.out.range 0 (ints [p, q]) rfl
  have OX : Hid (∀ u ∈ ints [p, q], u.oneCell' = true) := Lib.hid fun u hu => ints_one hu
  have A8 := Lib.hid (A7.out.setAll (ints [p, q]) rfl)
  have HB8 := Lib.hid (below_sets (B := g0) (Nat.le_refl _) (ints [p, q]) 0 _ HB7.out)
  have HLA : ((#[.int .i64 0, .int .i64 0] : Array Value).toList).length = (ints [p, q]).length := rfl
  generalize idB p q = SB at *
  go_wp2_with (first
    | ((with_reducible refine ld_row rx TI2 ?_ ?_ ?_); (· rfl); (· rfl); (simp only [Act.put, List.setIfInBounds_toArray, List.set_cons_zero, List.set_cons_succ]))
    | ((with_reducible refine st_row A7.out HLA TI2 OX.out ?_ ?_ ?_); (· rfl); (· rfl); (simp only [Act.put, List.setIfInBounds_toArray, List.set_cons_zero, List.set_cons_succ]); (generalize w7.setCells g0 0 (ints [p, q]) = w8 at *)))
  have hge := HG0.out
  subst hge
  refine ret_cell_tmp (cs := ints [p, q]) (v := .bool true) (p := 2) (q := 3) rfl rfl rfl A8.out Tryd.underlying23 rfl id_size rfl ?_
  exact ⟨rfl, HB8.out⟩
end Go.Proofs.YtbdonjapcpfgiaaDoor
