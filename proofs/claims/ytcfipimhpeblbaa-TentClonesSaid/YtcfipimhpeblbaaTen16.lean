/- A clone goes on by itself. -/
import Derived.Test.YtcfipimhpeblbaaTen15
import Derived.Deep.DeepCutAuto
import Derived.Maps.AppendAt
import Derived.Test.YtcfipimhpeblbaaRow
import Derived.Test.YtcfipimhpeblbaaOps
import Derived.RegionTactic
import Derived.BigRegion
import Derived.ChangeAlike
namespace Go.Proofs.Ytcfipimhpeblbaa
set_option linter.unusedVariables false
set_option linter.unusedSimpArgs false
open Go.ChangeShapes Go.WideShapes Go.ChangeAt Go.RowKit
theorem st_rowat18 {T g o t t' U : Nat} {cs old : List Value} {w : World} {ops : Array Oper} {rest : List Oper} {a : Act} {Q : Exit → Act → World → Prop} {ty : TypeId} {ps : String} {af : Array Edge} (hb : Blk w g old U) (hl : o + cs.length ≤ old.length) (hT : RowT T cs.length) (h1 : ∀ u ∈ cs, u.oneCell' = true)
    (hx : a.eval (.tmp t) = .pointer (some ⟨g, o, none⟩)) (hy : a.eval (.tmp t') = .agg cs.toArray) (h : wpList Try.prog ops Q rest (a.put none undef) (w.setCells g o cs)) :
    wpList Try.prog ops Q (⟨none, .store T (.tmp t) (.tmp t'), ty, ps, af, none⟩ :: rest) a w :=
  wpList_store_mid rfl T (.tmp t) (.tmp t') rfl g o _ hx hy (hb.there o _ (by rw [List.size_toArray]; exact hl)) (by rw [hT.2, List.size_toArray]) (all_oneCell_toArray h1) (by rw [List.toList_toArray]; exact h)
set_option maxRecDepth 100000 in
set_option maxHeartbeats 16000000 in
theorem tclones_law (v0 v1 v2 : Value) (w : World) (h0 : Arg Try.prog w 22 v0) (h1 : Arg Try.prog w 22 v1) (h2 : Arg Try.prog w 22 v2) : Calls Try.prog 5 #[v0, v1, v2] w fun e w' => e = .returned (.bool true) ∧ Below w.heap.size w w' := by
  obtain ⟨a0, n0, c0, L0, rfl, hnc0, hs0, hf0⟩ := h0.ops18
  have HF0 := Lib.hid hf0
  have HS0 := Lib.hid hs0
  have FW0 := Lib.hid (fun w' => few18_any a0 n0 c0 w' hnc0)
  clear hs0 hf0 h0
  obtain ⟨a1, n1, c1, L1, rfl, hnc1, hs1, hf1⟩ := h1.ops18
  have HF1 := Lib.hid hf1
  have HS1 := Lib.hid hs1
  have FW1 := Lib.hid (fun w' => few18_any a1 n1 c1 w' hnc1)
  clear hs1 hf1 h1
  obtain ⟨a2, n2, c2, L2, rfl, hnc2, hs2, hf2⟩ := h2.ops18
  have HF2 := Lib.hid hf2
  have HS2 := Lib.hid hs2
  have FW2 := Lib.hid (fun w' => few18_any a2 n2 c2 w' hnc2)
  clear hs2 hf2 h2
  have AL := Lib.hid (alive18 w)
  have ZE : Hid (∀ w, (binOp .eql 36 (.agg #[.int .i64 0, .int .i64 0, .int .i64 0, .int .i64 0, .int .i64 0, .int .i64 0, .int .i64 0, .int .i64 0, .int .i64 0]) (.agg #[.int .i64 0, .int .i64 0, .int .i64 0, .int .i64 0, .int .i64 0, .int .i64 0, .int .i64 0, .int .i64 0, .int .i64 0])).run Try.prog w = .ok (.bool true) w) := Lib.hid (fun w => cg_eqlS [0, 0, 0, 0, 0, 0, 0, 0, 0] rfl (fits_all _ (by decide)) w)
  go_enter Try.func5, Try.ntmps5
  go_wp2_with fail
  refine AL.out.mono ?_
  rintro e w1 ⟨rfl, hb1⟩
  have HB1 := Lib.hid hb1
  have K0 := Lib.hid (HS0.out.keep hb1)
  have K1 := Lib.hid (HS1.out.keep hb1)
  have K2 := Lib.hid (HS2.out.keep hb1)
  clear hb1 AL HS0 HS1 HS2
  go_upto_region 3 with fail
  have T1 : Tn (w1.alloc (.cells #[.slice none 0 0] 29)) w1.heap.size none 0 0 [] := ⟨Blk.new w1 #[.slice none 0 0] 29, ⟨rfl, Or.inl rfl⟩, fun _ => rfl, Nat.le_refl _⟩
  have S2 : Hid (St (w1.alloc (.cells #[.slice none 0 0] 29)) w1.heap.size none 0 0 none 0 []) := Lib.hid ⟨T1, ⟨rfl, Or.inl rfl⟩, fun _ => rfl, Nat.le_refl _, Or.inl rfl⟩
  have hal := (Below.refl w1.heap.size w1).alloc (Nat.le_refl _) (.cells #[.slice none 0 0] 29)
  have M0 := Lib.hid (K0.out.keep hal)
  have M1 := Lib.hid (K1.out.keep hal)
  have M2 := Lib.hid (K2.out.keep hal)
  have HB2 := Lib.hid (HB1.out.trans (hal.mono HB1.out.size))
  have HGB := Lib.hid HB1.out.size
  clear T1 hal K0 K1 K2 HB1
  go_upto_region 4 with fail
  generalize hg : w1.heap.size = g at *
  generalize w1.alloc (.cells #[.slice none 0 0] 29) = w2 at *
  clear hg
  go_wp2_with fail
  refine (FW0.out w2).mono ?_
  rintro e w3 ⟨rfl, rfl⟩
  go_wp2_with fail
  refine (run_few S2.out (by intro k; simp [fits]) (by omega) M0.out HF0).mono ?_
  rintro e w3 ⟨ta, tn, tc, ma, mc, L, rfl, s3, f3, hn3, ho⟩
  have S3 := Lib.hid s3
  have F3 := Lib.hid f3
  have HB3 := Lib.hid (HB2.out.trans (ho.toBelow (fun k hk => by rw [hk]; exact HGB.out) HB2.out.size))
  have P1 := Lib.hid (slOnly M1.out (sl_apartG S2.out.t.b M1.out (by decide)) ho)
  have P2 := Lib.hid (slOnly M2.out (sl_apartG S2.out.t.b M2.out (by decide)) ho)
  clear s3 f3 ho S2 M0 M1 M2 HB2
  go_wp2_with fail
  refine (tclone_any (Lib.hid S3.out.t) (by omega)).mono ?_
  rintro e w4 ⟨gk, ka, kc, rfl, hgk, tk, hb⟩
  have HGK := Lib.hid (show w.heap.size ≤ gk from Nat.le_trans HB3.out.size hgk)
  have NGK := Lib.hid (show gk ≠ g from fun e => by have := S3.out.t.b.lt; omega)
  have S4 := Lib.hid (S3.out.keep hb)
  have SK4 : Hid (St w4 gk ka tn kc ma mc L) := Lib.hid ⟨tk, S4.out.m, S4.out.mz, S4.out.mn, sl_apart tk.b S4.out.m⟩
  have Q1 := Lib.hid (P1.out.keep hb)
  have Q2 := Lib.hid (P2.out.keep hb)
  have HB4 := Lib.hid (HB3.out.trans (hb.mono HB3.out.size))
  clear hgk tk hb S3 P1 P2 HB3
  go_wp2_with fail
  refine (tall_any (Lib.hid S4.out.t) (by omega)).mono ?_
  rintro e w5 ⟨va, rfl, hown, hb⟩
  obtain ⟨aa, ca, rfl, hna, hca, hlen, hor⟩ := own_blkS hown
  have AA : Hid (tn = 0 ∨ ∃ ga cs, aa = some ⟨ga, 0, none⟩ ∧ w4.heap.size ≤ ga ∧ Blk w5 ga cs 36 ∧ cs.length = ca * 9) := Lib.hid (by
    rcases hor with h | ⟨ga, sp, h1, h2, h3, h4⟩
    · exact Or.inl h.1
    · exact Or.inr ⟨ga, _, h1, h2, h3, h4⟩)
  have HB5 := Lib.hid hb
  have HNA := Lib.hid hna
  clear hown hor hlen hca hb hna
  go_wp2_with fail
  go_loopg [12] tn (fun q s12 wr => ∃ i : Nat, q + i = tn ∧ s12 = .int .i64 i ∧ Hid (Below w4.heap.size w4 wr) ∧ Hid (tn = 0 ∨ ∃ ga cs, aa = some ⟨ga, 0, none⟩ ∧ w4.heap.size ≤ ga ∧ Blk wr ga cs 36 ∧ cs.length = ca * 9))
  case atStart => exact ⟨0, rfl, rfl, HB5, AA⟩
  case round =>
    obtain ⟨i, hqi, rfl, hbr, har⟩ := hrel
    by_cases hi : i < tn
    · have hin : (i : Int) < tn := by omega
      have hi0 : (0 : Int) ≤ i := by omega
      obtain ⟨ga, cs, rfl, hga, hA, hcl⟩ := har.out.resolve_left (by omega)
      have hlo : i * 9 + (ints [0, 0, 0, 99, 0, 0, 0, 0, 0]).length ≤ cs.length := by have := HNA.out; rw [hcl, ints_len]; simp only [List.length_cons, List.length_nil]; omega
      have TO : RowT 36 (ints [0, 0, 0, 99, 0, 0, 0, 0, 0]).length := rowChg
      have OX : Hid (∀ u ∈ ints [0, 0, 0, 99, 0, 0, 0, 0, 0], u.oneCell' = true) := Lib.hid fun u hu => ints_one hu
      go_wp2_with (first
        | ((with_reducible refine st_rowat18 hA hlo TO OX.out ?_ ?_ ?_); (· go_simp); (· rfl); (simp only [Act.put, List.setIfInBounds_toArray, List.set_cons_zero, List.set_cons_succ])))
      go_roundg (gk - 1)
      case measure => omega
      case rel =>
        obtain ⟨cs', h1, h2⟩ := blk_setsE (ints [0, 0, 0, 99, 0, 0, 0, 0, 0]) (i * 9) wr cs hA
        exact ⟨i + 1, by omega, by go_num, Lib.hid (below_sets hga (ints [0, 0, 0, 99, 0, 0, 0, 0, 0]) (i * 9) _ hbr.out), Lib.hid (Or.inr ⟨ga, cs', rfl, hga, h1, by rw [h2, hcl]⟩)⟩
    · have hin : ¬ (i : Int) < tn := by omega
      have S6 := Lib.hid (S4.out.keep hbr.out)
      have SK6 := Lib.hid (SK4.out.keep hbr.out)
      have K1 := Lib.hid (Q1.out.keep hbr.out)
      have K2 := Lib.hid (Q2.out.keep hbr.out)
      have HB6 := Lib.hid (HB4.out.trans (hbr.out.mono HB4.out.size))
      clear hbr har AA HB5 HB4 S4 SK4 Q1 Q2 HNA
      generalize wr = w6 at *
      go_wp2_with fail
      refine (FW1.out w6).mono ?_
      rintro e w7 ⟨rfl, rfl⟩
      go_wp2_with fail
      refine (run_few S6.out F3.out (by omega) K1.out HF1).mono ?_
      rintro e w7 ⟨ta7, tn7, tc7, ma7, mc7, L7, rfl, s7, f7, hn7, ho⟩
      have S7 := Lib.hid s7
      have F7 := Lib.hid f7
      have SK7 := Lib.hid (SK6.out.only S6.out.t.b NGK.out ho)
      have J2 := Lib.hid (slOnly K2.out (sl_apartG S6.out.t.b K2.out (by decide)) ho)
      have HB7 := Lib.hid (HB6.out.trans (ho.toBelow (fun k hk => by rw [hk]; exact HGB.out) HB6.out.size))
      clear s7 f7 ho S6 SK6 K1 K2 HB6
      go_wp2_with fail
      refine (FW2.out w7).mono ?_
      rintro e w8 ⟨rfl, rfl⟩
      go_wp2_with fail
      refine (run_few SK7.out F3.out (by omega) J2.out HF2).mono ?_
      rintro e w8 ⟨ta8, tn8, tc8, ma8, mc8, L8, rfl, s8, f8, hn8, ho⟩
      have SK8 := Lib.hid s8
      have F8 := Lib.hid f8
      have S8 := Lib.hid (S7.out.only SK7.out.t.b (Ne.symm NGK.out) ho)
      have HB8 := Lib.hid (HB7.out.trans (ho.toBelow (fun k hk => by rw [hk]; exact HGK.out) HB7.out.size))
      clear s8 f8 ho S7 SK7 J2 HB7
      go_wp2_with fail
      refine (nfirst w8).mono ?_
      rintro e w9 ⟨rfl, hb⟩
      have S9 := Lib.hid (S8.out.keep hb)
      have SK9 := Lib.hid (SK8.out.keep hb)
      have HB9 := Lib.hid (HB8.out.trans (hb.mono HB8.out.size))
      clear hb S8 SK8 HB8
      go_upto_region 14 with fail
      generalize hgc : w9.heap.size = gc at *
      have C10 : Hid (Blk (w9.alloc (.cells #[.int .i64 0, .int .i64 0, .int .i64 0, .int .i64 0, .int .i64 0, .int .i64 0, .int .i64 0, .int .i64 0, .int .i64 0] 36)) gc (ints [0, 0, 0, 0, 0, 0, 0, 0, 0]) 36) := Lib.hid (hgc ▸ Blk.new w9 #[.int .i64 0, .int .i64 0, .int .i64 0, .int .i64 0, .int .i64 0, .int .i64 0, .int .i64 0, .int .i64 0, .int .i64 0] 36)
      have hal := (Below.refl w9.heap.size w9).alloc (Nat.le_refl _) (.cells #[.int .i64 0, .int .i64 0, .int .i64 0, .int .i64 0, .int .i64 0, .int .i64 0, .int .i64 0, .int .i64 0, .int .i64 0] 36)
      have S10 := Lib.hid (S9.out.keep hal)
      have SK10 := Lib.hid (SK9.out.keep hal)
      have HB10 := Lib.hid (HB9.out.trans (hal.mono HB9.out.size))
      generalize w9.alloc (.cells #[.int .i64 0, .int .i64 0, .int .i64 0, .int .i64 0, .int .i64 0, .int .i64 0, .int .i64 0, .int .i64 0, .int .i64 0] 36) = w10 at *
      clear hal S9 SK9 HB9 hgc
      go_wp2_with fail
      refine (ntake w10).mono ?_
      rintro e w11 ⟨rfl, hb⟩
      have S11 := Lib.hid (S10.out.keep hb)
      have SK11 := Lib.hid (SK10.out.keep hb)
      have C11 := Lib.hid (C10.out.keep hb C10.out.lt)
      have HB11 := Lib.hid (HB10.out.trans (hb.mono HB10.out.size))
      clear hb S10 SK10 C10 HB10
      go_upto_region 15 with fail
      have hal := (Below.refl w11.heap.size w11).alloc (Nat.le_refl _) (.cells #[.int .i64 0, .int .i64 0, .int .i64 0, .int .i64 0, .int .i64 0, .int .i64 0, .int .i64 0, .int .i64 0, .int .i64 0] 36)
      have S12 := Lib.hid (S11.out.keep hal)
      have SK12 := Lib.hid (SK11.out.keep hal)
      have C12 := Lib.hid (C11.out.keep hal C11.out.lt)
      have HB12 := Lib.hid (HB11.out.trans (hal.mono HB11.out.size))
      generalize hgd : w11.heap.size = gd at *
      generalize w11.alloc (.cells #[.int .i64 0, .int .i64 0, .int .i64 0, .int .i64 0, .int .i64 0, .int .i64 0, .int .i64 0, .int .i64 0, .int .i64 0] 36) = w21 at *
      clear hal hgd S11 SK11 C11 HB11
      have S11 := S12
      have SK11 := SK12
      have C11 := C12
      have HB11 := HB12
      clear S12 SK12 C12 HB12
      go_wp2_with fail
      refine (tall_any (Lib.hid S11.out.t) (by omega)).mono ?_
      rintro e w12 ⟨v12, rfl, hown, hb⟩
      obtain ⟨a12, c12, rfl, hs12, _, _, _⟩ := own_slF hown
      have S12 := Lib.hid (S11.out.keep hb)
      have SK12 := Lib.hid (SK11.out.keep hb)
      have C12 := Lib.hid (C11.out.keep hb C11.out.lt)
      have HB12 := Lib.hid (HB11.out.trans (hb.mono HB11.out.size))
      have CH := Lib.hid (changes_sameS a12 ma7 tn7 c12 mc7 L7 w12 hs12 S12.out.m (by omega) F7.out)
      clear hown hs12 hb S11 SK11 C11 HB11
      go_wp2_with fail
      refine CH.out.mono ?_
      rintro e w13 ⟨rfl, hb⟩
      have SK13 := Lib.hid (SK12.out.keep hb)
      have C13 := Lib.hid (C12.out.keep hb C12.out.lt)
      have HB13 := Lib.hid (HB12.out.trans (hb.mono HB12.out.size))
      clear hb S12 SK12 C12 HB12 CH
      go_wp2_with fail
      refine (tall_any (Lib.hid SK13.out.t) (by omega)).mono ?_
      rintro e w14 ⟨v14, rfl, hown, hb⟩
      obtain ⟨a14, c14, rfl, hs14, _, _, _⟩ := own_slF hown
      have SK14 := Lib.hid (SK13.out.keep hb)
      have C14 := Lib.hid (C13.out.keep hb C13.out.lt)
      have HB14 := Lib.hid (HB13.out.trans (hb.mono HB13.out.size))
      have CH := Lib.hid (changes_sameS a14 ma8 tn8 c14 mc8 L8 w14 hs14 SK14.out.m (by omega) F8.out)
      clear hown hs14 hb SK13 C13 HB13
      go_wp2_with fail
      refine CH.out.mono ?_
      rintro e w15 ⟨rfl, hb⟩
      have C15 := Lib.hid (C14.out.keep hb C14.out.lt)
      have HB15 := Lib.hid (HB14.out.trans (hb.mono HB14.out.size))
      clear hb SK14 C14 HB14 CH
      have rC := C15.out.range 0 (ints [0, 0, 0, 0, 0, 0, 0, 0, 0]) rfl
      have TC : RowT 36 (ints [0, 0, 0, 0, 0, 0, 0, 0, 0]).length := rowChg
      go_wp2_with (first
        | ((with_reducible refine ld_row rC TC ?_ ?_ ?_); (· rfl); (· rfl); (simp only [Act.put, List.setIfInBounds_toArray, List.set_cons_zero, List.set_cons_succ])))
      refine (nput w15).mono ?_
      rintro e w16 ⟨rfl, hb⟩
      have C16 := Lib.hid (C15.out.keep hb C15.out.lt)
      have HB16 := Lib.hid (HB15.out.trans (hb.mono HB15.out.size))
      clear hb rC C15 HB15
      have rC := C16.out.range 0 (ints [0, 0, 0, 0, 0, 0, 0, 0, 0]) rfl
      have ZE2 := ZE.out
      go_wp2_with (first
        | ((with_reducible refine ld_row rC TC ?_ ?_ ?_); (· rfl); (· rfl); (simp only [Act.put, List.setIfInBounds_toArray, List.set_cons_zero, List.set_cons_succ]))
        | ((with_reducible refine cmp_row egCgS ZE2 ?_ ?_ ?_ ?_); (· rfl); (· rfl); (· rfl); (simp only [Act.put, List.setIfInBounds_toArray, List.set_cons_zero, List.set_cons_succ])))
      refine (nfree w16).mono ?_
      rintro e w17 ⟨rfl, hb⟩
      have HB17 := Lib.hid (HB16.out.trans (hb.mono HB16.out.size))
      clear hb rC C16 HB16
      go_wp2_with fail
      refine (nlen w17).mono ?_
      rintro e w18 ⟨rfl, hb⟩
      have HB18 := Lib.hid (HB17.out.trans (hb.mono HB17.out.size))
      clear hb HB17
      go_wp2_with fail
      refine (nall w18).mono ?_
      rintro e w19 ⟨rfl, hb⟩
      have HB19 := Lib.hid (HB18.out.trans (hb.mono HB18.out.size))
      clear hb HB18
      go_wp2_with fail
      refine (nclone w19).mono ?_
      rintro e w20 ⟨rfl, hb⟩
      have HB20 := Lib.hid (HB19.out.trans (hb.mono HB19.out.size))
      clear hb HB19
      go_wp2_with fail
      go_ret
      exact ⟨rfl, HB20.out⟩
end Go.Proofs.Ytcfipimhpeblbaa
