/- The statement of bookings as lines. -/
import Derived.Test.YtaaefkadkciohaaDoorBoo2
import Derived.Test.YtaaefkadkciohaaDoorRows
import Derived.Deep.DeepCutAuto
import Derived.Maps.AppendAt
import Derived.Test.YtaaefkadkciohaaDoorRow
import Derived.Test.YtaaefkadkciohaaDoorOps
import Derived.RegionTactic
import Derived.BigRegion
import Derived.ChangeAlike
namespace Go.Proofs.YtaaefkadkciohaaDoor
set_option linter.unusedVariables false
set_option linter.unusedSimpArgs false
open Go.ChangeShapes Go.WideShapes Go.ChangeAt Go.RowKit
theorem bk_row : RowT 44 25 := ⟨⟨_, Tryd.underlying44, rfl⟩, by kernel_rfl⟩
theorem flat_ar8 : flat Tryd.prog 2 41 = some (List.replicate 8 (some .i64)) := by kernel_rfl
theorem flat_ord7 : flat Tryd.prog 3 27 = some (List.replicate 7 (some .i64)) := by kernel_rfl
theorem Rd.rowsB {s t e f : Nat} {w : World} {cs : List Value} (h : Rd Tryd.prog w t cs) (hu : Tryd.prog.underlying t = some (.slice e)) (hk : flat Tryd.prog f e = some (List.replicate s (some .i64))) (hc : Tryd.prog.cellsOf e = s) (hp : 0 < s) :
    ∃ a n c L, cs = [.slice a n c] ∧ n ≤ c ∧ c ≤ maxLen ∧ Sl w a n s (ints L) ∧ ∀ z ∈ L, fits z = true := by
  obtain ⟨a, n, c, xs, rfl, h1, h2, h3, h4, h5⟩ := h.flat_slice hu hk (by rw [hc, List.length_replicate]) (by rw [List.length_replicate]; exact hp)
  rw [List.length_replicate] at h4 h5
  have hE : ∃ L : List Int, xs = ints L ∧ ∀ z ∈ L, (Lit.int .i64 z).wf = true := by
    refine all_intsG fun u hu => ?_
    obtain ⟨j, hj, rfl⟩ := List.getElem_of_mem hu
    have hl : xs.length = n * s := h4.1
    have hi : j / s < n := Nat.div_lt_of_lt_mul (by rw [Nat.mul_comm, ← hl]; exact hj)
    have hm := Nat.mod_lt j hp
    have hdm : j / s * s + j % s = j := Nat.div_add_mod' j s
    have : ((xs.drop (j / s * s)).take s)[j % s]? = some xs[j] := by
      rw [List.getElem?_take_of_lt hm, List.getElem?_drop, hdm, List.getElem?_eq_getElem hj]
    obtain ⟨k, hk1, hk⟩ := (h5 _ hi).get this
    rw [List.getElem?_replicate, if_pos hm] at hk1
    obtain rfl := Option.some.inj hk1
    exact hk
  obtain ⟨L, rfl, hL⟩ := hE
  exact ⟨a, n, c, L, rfl, h1, h2, h4, fun z hz => fits_wf (hL z hz)⟩
theorem Arg.book39 {w : World} {v : Value} (h : Arg Tryd.prog w 44 v) : ∃ s p u a n c L, v = .agg (bk39 s p u (.slice a n c)).toArray ∧ (s.length = 8 ∧ p.length = 8 ∧ u.length = 8) ∧ (∀ z ∈ s, fits z = true) ∧ (∀ z ∈ p, fits z = true) ∧ (∀ z ∈ u, fits z = true) ∧ n ≤ c ∧ c ≤ 9223372036854775807 ∧ Sl w a n 7 (ints L) ∧ ∀ z ∈ L, fits z = true := by
  obtain ⟨cs, rfl, hr⟩ := h.shape_struct Tryd.underlying44
  have hl := hr.len Tryd.underlying44
  rw [show Tryd.prog.cellsOf 44 = 25 by kernel_rfl] at hl
  have r0 := hr.at_ Tryd.underlying44 0 41 0 8 rfl (by kernel_rfl)
  have r1 := hr.at_ Tryd.underlying44 1 41 8 8 rfl (by kernel_rfl)
  have r2 := hr.at_ Tryd.underlying44 2 41 16 8 rfl (by kernel_rfl)
  have r3 := hr.at_ Tryd.underlying44 3 42 24 1 rfl (by kernel_rfl)
  obtain ⟨s, hs, es, ws⟩ := ints_of_ok 8 _ (r0.isFlat flat_ar8)
  obtain ⟨p, hp, ep, wp⟩ := ints_of_ok 8 _ (r1.isFlat flat_ar8)
  obtain ⟨u, hu, eu, wu⟩ := ints_of_ok 8 _ (r2.isFlat flat_ar8)
  obtain ⟨a, n, c, L, eo, h1, h2, h4, h5⟩ := r3.rowsB Tryd.underlying42 flat_ord7 (by kernel_rfl) (by decide)
  have hcs : cs = bk39 s p u (.slice a n c) := by
    have e : cs = (cs.drop 0).take 8 ++ (cs.drop 8).take 8 ++ (cs.drop 16).take 8 ++ (cs.drop 24).take 1 := by
      have a1 : cs.drop 24 = (cs.drop 24).take 1 := (List.take_of_length_le (by simp; omega)).symm
      rw [← a1, show cs.drop 24 = (cs.drop 16).drop 8 by rw [List.drop_drop], List.append_assoc, List.take_append_drop, show cs.drop 16 = (cs.drop 8).drop 8 by rw [List.drop_drop], List.append_assoc, List.take_append_drop, List.drop_zero, List.take_append_drop]
    rw [e, es, ep, eu, eo]
    rfl
  exact ⟨s, p, u, a, n, c, L, by rw [hcs], ⟨hs, hp, hu⟩, fun z hz => fits_wf (ws z hz), fun z hz => fits_wf (wp z hz), fun z hz => fits_wf (wu z hz), h1, by simpa [maxLen] using h2, h4, h5⟩
theorem list_set_self {l : List Value} {i : Nat} {v : Value} (h : l[i]? = some v) : l.set i v = l := by
  apply List.ext_getElem?
  intro j
  rw [List.getElem?_set]
  split
  · rename_i e
    subst e
    split
    · exact h.symm
    · rename_i hlt
      rw [List.getElem?_eq_none (by omega)] at h
      cases h
  · rfl
theorem blk_keepB {w w' : World} {g t : Nat} {cs : List Value} {row : Option Nat} (h : Blk w g cs t) (hg : w.grownBy w' row) (hne : ∀ q, row = some q → q ≠ g) : Blk w' g cs t :=
  (hg.block g h.lt (fun e => hne g e.symm rfl)).trans h
set_option maxRecDepth 100000 in
set_option maxHeartbeats 8000000 in
theorem books39 (s p u : List Int) (a : Option Addr) (n0 c : Nat) (L0 : List Int) (w : World) (h8 : s.length = 8 ∧ p.length = 8 ∧ u.length = 8) (hfs : ∀ z ∈ s, fits z = true) (hfp : ∀ z ∈ p, fits z = true) (hfu : ∀ z ∈ u, fits z = true) (hnc : n0 ≤ c) (hcm : c ≤ 9223372036854775807) (hsl0 : Sl w a n0 7 (ints L0)) (hfl0 : ∀ z ∈ L0, fits z = true) (hT : PTab w) (hBk : STab 1 bookW w) (hS : STab 0 stW w) :
    Calls Tryd.prog 4 #[.agg (bk39 s p u (.slice a n0 c)).toArray] w fun e w' => e = .returned (.bool true) ∧ Below w.heap.size w w' := by
  obtain ⟨i0, hi, hzz0, hzz1, hzz2⟩ := info_parts str_info
  obtain ⟨m, hm⟩ : ∃ m, m = min n0 40 := ⟨_, rfl⟩
  have hm40 : m ≤ 40 := by omega
  have hmn : m ≤ n0 := by omega
  have HMC : Hid ((40 < n0 → m = 40) ∧ (¬ 40 < n0 → m = n0)) := Lib.hid ⟨fun h => by omega, fun h => by omega⟩
  clear hm
  obtain ⟨L, hL⟩ : ∃ L, L = L0.take (m * 7) := ⟨_, rfl⟩
  have hsl : Sl w a m 7 (ints L) := by rw [hL]; exact hsl0.fewG hmn
  have hfl : ∀ z ∈ L, fits z = true := fun z hz => hfl0 z (by rw [hL] at hz; exact List.mem_of_mem_take hz)
  have hl : Hid (L.length = m * 7) := Lib.hid (by have := hsl.1; rwa [ints_len] at this)
  have HB := Lib.hid ((Below.refl w.heap.size w).alloc (Nat.le_refl _) (.cells (bk39 s p u (.slice a n0 c)).toArray 44))
  have A := Lib.hid (Blk.new w (bk39 s p u (.slice a n0 c)).toArray 44)
  rw [List.toList_toArray] at A
  have HSL := Lib.hid (fun w' (hb : Below w.heap.size w w') => hsl.keep hb)
  have HF := Lib.hid hfl
  have HT := Lib.hid (fun w' (hb : Below w.heap.size w w') => And.intro (hT.keep hb) (hS.keep hb))
  have HAL := Lib.hid (fun w' (hb : Below w.heap.size w w') => alive39 w' (hT.keep hb) (hBk.keep hb) (hS.keep hb))
  have e0 : (bk39 s p u (.slice a n0 c))[24]? = some (.slice a n0 c) := by simp [bk39, ints_len, h8.1, h8.2.1, h8.2.2]
  have e1 : ((bk39 s p u (.slice a m c)).drop 0).take 8 = ints s := by simp [bk39, List.take_append, ints_len, h8.1]
  have e2 : ((bk39 s p u (.slice a m c)).drop 8).take 8 = ints p := by simp [bk39, List.drop_append, List.take_append, ints_len, h8.1, h8.2.1]
  have e3 : ((bk39 s p u (.slice a m c)).drop 16).take 8 = ints u := by simp [bk39, List.drop_append, List.take_append, ints_len, h8.1, h8.2.1, h8.2.2]
  have e4 : (bk39 s p u (.slice a m c))[24]? = some (.slice a m c) := by simp [bk39, ints_len, h8.1, h8.2.1, h8.2.2]
  have e5 : (bk39 s p u (.slice a n0 c)).set 24 (.slice a m c) = bk39 s p u (.slice a m c) := by simp [bk39, List.set_append, ints_len, h8.1, h8.2.1, h8.2.2]
  have hlen := bk39_len h8.1 h8.2.1 h8.2.2 (.slice a m c)
  have D10 := Lib.hid (fun w' (h : Blk w' w.heap.size (bk39 s p u (.slice a m c)) 44) => decimals_any (some ⟨w.heap.size, 0, none⟩) 8 8 s w' (sl_part h e1 (by rw [ints_len]; exact h8.1) (by omega)) (by decide) hfs)
  have D20 := Lib.hid (fun w' (h : Blk w' w.heap.size (bk39 s p u (.slice a m c)) 44) => decimals_any (some ⟨w.heap.size, 8, none⟩) 8 8 p w' (sl_part h e2 (by rw [ints_len]; exact h8.2.1) (by omega)) (by decide) hfp)
  have D30 := Lib.hid (fun w' (h : Blk w' w.heap.size (bk39 s p u (.slice a m c)) 44) => decimals_any (some ⟨w.heap.size, 16, none⟩) 8 8 u w' (sl_part h e3 (by rw [ints_len]; exact h8.2.2) (by omega)) (by decide) hfu)
  have CBK := Lib.hid (fun w' (hb : Below w.heap.size w w') => book_any s p u a m c L w' h8 hfs hfp hfu (hsl.keep hb) hfl hm40 (hT.keep hb) (hS.keep hb))
  have z1 := numsB_size hfs
  have z2 := numsB_size hfp
  have z3 := numsB_size hfu
  rw [h8.1] at z1
  rw [h8.2.1] at z2
  rw [h8.2.2] at z3
  have E0 := Lib.hid e0
  have E4 := Lib.hid e4
  have E5 := Lib.hid e5
  obtain ⟨HL, hHL⟩ : ∃ HL, HL = headL s p u := ⟨_, rfl⟩
  rw [← hHL] at CBK
  obtain ⟨S1, hS1⟩ : ∃ S1 : ByteArray, S1 = ⟨#[115, 116, 111, 99, 107]⟩ ++ numsB s := ⟨_, rfl⟩
  obtain ⟨S2, hS2⟩ : ∃ S2 : ByteArray, S2 = ⟨#[112, 114, 105, 99, 101]⟩ ++ numsB p := ⟨_, rfl⟩
  obtain ⟨S3, hS3⟩ : ∃ S3 : ByteArray, S3 = ⟨#[112, 117, 114, 115, 101]⟩ ++ numsB u := ⟨_, rfl⟩
  have HHL : Hid (strs HL = [.string S1, .string S2, .string S3]) := Lib.hid (by rw [hHL, hS1, hS2, hS3]; rfl)
  have HS1 := Lib.hid hS1
  have HS2 := Lib.hid hS2
  have HS3 := Lib.hid hS3
  have hs1 : (⟨#[115, 116, 111, 99, 107]⟩ : ByteArray).size + (numsB s).size ≤ 100000 := by show 5 + _ ≤ _; omega
  have hs2 : (⟨#[112, 114, 105, 99, 101]⟩ : ByteArray).size + (numsB p).size ≤ 100000 := by show 5 + _ ≤ _; omega
  have hs3 : (⟨#[112, 117, 114, 115, 101]⟩ : ByteArray).size + (numsB u).size ≤ 100000 := by show 5 + _ ≤ _; omega
  have HLE : Hid ((strs (HL ++ ordsL L m)).length = m + 3) := Lib.hid (by rw [strs_len, List.length_append, ordsL_len, hHL]; show 3 + m = m + 3; omega)
  have HLN : Hid ((bk39 s p u (.slice a m c)).length = 25) := Lib.hid hlen
  clear h8 hfs hfp hfu hsl hsl0 hfl hfl0 hT hS hBk e0 e1 e2 e3 e4 e5 hlen hHL hS1 hS2 hS3 z1 z2 z3 hL
  generalize numsB s = N1 at *
  generalize numsB p = N2 at *
  generalize numsB u = N3 at *
  generalize bk39 s p u (.slice a n0 c) = CC0 at *
  generalize bk39 s p u (.slice a m c) = CC at *
  go_enter Tryd.func4, Tryd.ntmps4
  go_upto_region 1 with fail
  generalize hg0 : w.heap.size = g0 at *
  have HG0 := Lib.hid hg0
  generalize w.alloc (.cells CC0.toArray 44) = w1 at *
  clear hg0
  have AL1 := Lib.hid (HAL.out w1 HB.out)
  go_wp2_with fail
  refine AL1.out.mono ?_
  rintro e w2 ⟨rfl, hb⟩
  have HB2 := Lib.hid (HB.out.trans (hb.mono (HG0.out ▸ HB.out.size)))
  have A2 := Lib.hid (A.out.keep hb A.out.lt)
  clear hb HB A AL1 HAL
  have ca := A2.out.cell 24
  rw [E0.out] at ca
  go_upto_if 10 with fail
  go_cut [] (fun wx => Hid (Blk wx g0 CC 44) ∧ Hid (Below g0 w wx))
  case first =>
    have hfz := A2.out.froz 24
    by_cases h40 : 40 < n0
    · have h40i : (40 : Int) < n0 := by omega
      have h40c : 40 ≤ c := by omega
      have hm4 : m = 40 := HMC.out.1 h40
      clear HMC
      subst hm4
      have A3 := Lib.hid (A2.out.set 24 (.slice a 40 c))
      have HB3 := Lib.hid (below_set HB2.out (Nat.le_refl g0) 24 (.slice a 40 c))
      rw [E5.out] at A3
      go_wp2_with fail
      go_meet
      exact ⟨A3, HB3⟩
    · have h40i : ¬ (40 : Int) < n0 := by omega
      have hm4 : m = n0 := HMC.out.2 h40
      clear HMC
      subst hm4
      go_wp2_with fail
      go_meet
      exact ⟨by have h := A2.out; rw [show CC0 = CC from by have := E5.out; rw [← this]; exact (list_set_self E0.out).symm] at h; exact Lib.hid h, HB2⟩
  case rest =>
    obtain ⟨A4, HB4⟩ := hcut
    generalize wc = w4 at *
    clear ca A2 HB2 E0 E5
    have D1 := Lib.hid (fun w' (hb : Below w4.heap.size w4 w') => D10.out w' (A4.out.keep hb A4.out.lt))
    have D2 := Lib.hid (fun w' (hb : Below w4.heap.size w4 w') => D20.out w' (A4.out.keep hb A4.out.lt))
    have D3 := Lib.hid (fun w' (hb : Below w4.heap.size w4 w') => D30.out w' (A4.out.keep hb A4.out.lt))
    clear D10 D20 D30
    go_upto_region 5 with fail
    refine held_begin (fun w' => Below w4.heap.size w4 w') 14 [false, false, false, false, false, false, false, false, false, false, false, false, false, false] (by kernel_rfl) rfl (by rfl) ?_
    have hHeld : Below w4.heap.size w4 w4.drew := (Below.refl _ _).drew
    refine held_take (v := ?_) 0 15 [true, false, false, false, false, false, false, false, false, false, false, false, false, false] rfl (by rfl) (by rfl) (by kernel_rfl) (by kernel_rfl) (by kernel_rfl) (by rfl) (fun _ _ _ h => h) ?_ hHeld ?_
    rotate_left
    · intro w hSw; go_simp <;> with_reducible rfl
    simp only [Act.put, List.setIfInBounds_toArray, List.set_cons_zero, List.set_cons_succ]
    refine held_take (v := .slice (some ⟨g0, 0, none⟩) 8 8) 1 16 [true, true, false, false, false, false, false, false, false, false, false, false, false, false] rfl (by rfl) (by rfl) (by kernel_rfl) (by kernel_rfl) (by kernel_rfl) (by rfl) (fun _ _ _ h => h) (fun w' h => slice_arr rfl rfl trivial trivial) hHeld ?_
    simp only [Act.put, List.setIfInBounds_toArray, List.set_cons_zero, List.set_cons_succ]
    refine held_take (v := ?_) 4 19 [true, true, false, false, true, false, false, false, false, false, false, false, false, false] rfl (by rfl) (by rfl) (by kernel_rfl) (by kernel_rfl) (by kernel_rfl) (by rfl) (fun _ _ _ h => h) ?_ hHeld ?_
    rotate_left
    · intro w hSw; go_simp <;> with_reducible rfl
    simp only [Act.put, List.setIfInBounds_toArray, List.set_cons_zero, List.set_cons_succ]
    refine held_take (v := .slice (some ⟨g0, 8, none⟩) 8 8) 5 20 [true, true, false, false, true, true, false, false, false, false, false, false, false, false] rfl (by rfl) (by rfl) (by kernel_rfl) (by kernel_rfl) (by kernel_rfl) (by rfl) (fun _ _ _ h => h) (fun w' h => slice_arr rfl rfl trivial trivial) hHeld ?_
    simp only [Act.put, List.setIfInBounds_toArray, List.set_cons_zero, List.set_cons_succ]
    refine held_take (v := ?_) 8 23 [true, true, false, false, true, true, false, false, true, false, false, false, false, false] rfl (by rfl) (by rfl) (by kernel_rfl) (by kernel_rfl) (by kernel_rfl) (by rfl) (fun _ _ _ h => h) ?_ hHeld ?_
    rotate_left
    · intro w hSw; go_simp <;> with_reducible rfl
    simp only [Act.put, List.setIfInBounds_toArray, List.set_cons_zero, List.set_cons_succ]
    refine held_take (v := .slice (some ⟨g0, 16, none⟩) 8 8) 9 24 [true, true, false, false, true, true, false, false, true, true, false, false, false, false] rfl (by rfl) (by rfl) (by kernel_rfl) (by kernel_rfl) (by kernel_rfl) (by rfl) (fun _ _ _ h => h) (fun w' h => slice_arr rfl rfl trivial trivial) hHeld ?_
    simp only [Act.put, List.setIfInBounds_toArray, List.set_cons_zero, List.set_cons_succ]
    refine held_call 2 17 [true, true, true, false, true, true, false, false, true, true, false, false, false, false] (by kernel_rfl) rfl (by rfl) (by rfl) (by rfl) (by go_simp) ((D1.out _ hHeld).mono ?_)
    rintro e y2 ⟨rfl, hb2⟩
    refine ⟨_, rfl, hHeld.trans (hb2.mono hHeld.size), fun hHeld => ?_⟩
    simp only [Act.put, List.setIfInBounds_toArray, List.set_cons_zero, List.set_cons_succ]
    refine held_take (v := .string S1) 3 18 [true, true, true, true, true, true, false, false, true, true, false, false, false, false] rfl (by rfl) (by rfl) (by kernel_rfl) (by kernel_rfl) (by kernel_rfl) (by rfl) (fun _ _ _ h => h) (fun w' h => by rw [HS1.out]; exact run_op_adds rfl rfl rfl hs1) hHeld ?_
    simp only [Act.put, List.setIfInBounds_toArray, List.set_cons_zero, List.set_cons_succ]
    refine held_call 6 21 [true, true, true, true, true, true, true, false, true, true, false, false, false, false] (by kernel_rfl) rfl (by rfl) (by rfl) (by rfl) (by go_simp) ((D2.out _ hHeld).mono ?_)
    rintro e y6 ⟨rfl, hb6⟩
    refine ⟨_, rfl, hHeld.trans (hb6.mono hHeld.size), fun hHeld => ?_⟩
    simp only [Act.put, List.setIfInBounds_toArray, List.set_cons_zero, List.set_cons_succ]
    refine held_take (v := .string S2) 7 22 [true, true, true, true, true, true, true, true, true, true, false, false, false, false] rfl (by rfl) (by rfl) (by kernel_rfl) (by kernel_rfl) (by kernel_rfl) (by rfl) (fun _ _ _ h => h) (fun w' h => by rw [HS2.out]; exact run_op_adds rfl rfl rfl hs2) hHeld ?_
    simp only [Act.put, List.setIfInBounds_toArray, List.set_cons_zero, List.set_cons_succ]
    refine held_call 10 25 [true, true, true, true, true, true, true, true, true, true, true, false, false, false] (by kernel_rfl) rfl (by rfl) (by rfl) (by rfl) (by go_simp) ((D3.out _ hHeld).mono ?_)
    rintro e y10 ⟨rfl, hb10⟩
    refine ⟨_, rfl, hHeld.trans (hb10.mono hHeld.size), fun hHeld => ?_⟩
    simp only [Act.put, List.setIfInBounds_toArray, List.set_cons_zero, List.set_cons_succ]
    refine held_take (v := .string S3) 11 26 [true, true, true, true, true, true, true, true, true, true, true, true, false, false] rfl (by rfl) (by rfl) (by kernel_rfl) (by kernel_rfl) (by kernel_rfl) (by rfl) (fun _ _ _ h => h) (fun w' h => by rw [HS3.out]; exact run_op_adds rfl rfl rfl hs3) hHeld ?_
    simp only [Act.put, List.setIfInBounds_toArray, List.set_cons_zero, List.set_cons_succ]
    have hal := (Below.refl y10.heap.size y10).alloc (Nat.le_refl _) (.cells #[.string S1, .string S2, .string S3] 9)
    refine held_one 12 (by kernel_rfl) ?_
    refine op_value (v := .slice (some ⟨y10.heap.size, 0, none⟩) 3 3) 27 [true, true, true, true, true, true, true, true, true, true, true, true, true, false] rfl (by rfl) (by rfl) (by rfl) (by go_simp <;> rfl) (hHeld.trans (hal.mono hHeld.size)) fun hHeld => ?_
    simp only [Act.put, List.setIfInBounds_toArray, List.set_cons_zero, List.set_cons_succ]
    refine held_take (v := ?_) 13 3 [true, true, true, true, true, true, true, true, true, true, true, true, true, true] rfl (by rfl) (by rfl) (by kernel_rfl) (by kernel_rfl) (by kernel_rfl) (by rfl) (fun _ _ _ h => h) ?_ hHeld ?_
    rotate_left
    · intro w hSw; go_simp <;> with_reducible rfl
    simp only [Act.put, List.setIfInBounds_toArray, List.set_cons_zero, List.set_cons_succ]
    refine held_done (by kernel_rfl) ?_
    have HO1 := Lib.hid (own_lit y10 (g0 + 1) 9 [.string S1, .string S2, .string S3] (by have h1 := A4.out.lt; have h2 := hHeld.size; have h3 := hb2.size; have h4 := hb6.size; have h5 := hb10.size; simp at h2 h3 h4 h5; omega) (by simp [maxLen]))
    have HB5 := Lib.hid (HB4.out.trans (hHeld.mono (HG0.out ▸ HB4.out.size)))
    have A5 := Lib.hid (A4.out.keep hHeld A4.out.lt)
    clear hHeld hb2 hb6 hb10 hal HB4 A4 D1 D2 D3
    generalize hgs : y10.heap.size = gs at *
    have HO1 : Hid ((y10.alloc (.cells #[.string S1, .string S2, .string S3] 9)).ownsRow (g0 + 1) 9 1 (.slice (some ⟨gs, 0, none⟩) 3 3) 3 [.string S1, .string S2, .string S3]) := HO1
    generalize y10.alloc (.cells #[.string S1, .string S2, .string S3] 9) = wS at *
    clear hgs
    rw [← HHL.out] at HO1
    go_upto_region 7 with fail
    go_loopg [3, 4] m (fun qq s3 s4 wr => ∃ i : Nat, qq + i = m ∧ s4 = .int .i64 i ∧ Hid (wr.ownsRow (g0 + 1) 9 1 s3 (i + 3) (strs (HL ++ ordsL L i))) ∧ Hid (Blk wr g0 CC 44) ∧ Hid (Below g0 w wr))
    case atStart => exact ⟨0, by omega, rfl, by rw [show ordsL L 0 = [] from rfl, List.append_nil]; exact HO1, A5, HB5⟩
    case round =>
      clear HO1 HB5 A5
      obtain ⟨i, hqi, rfl, HO, A6, HB⟩ := hrel
      generalize wr = wA at *
      have ca := A6.out.cell 24
      rw [E4.out] at ca
      by_cases hin0 : i < m
      · have hz0 : (0 : Int) ≤ i := by omega
        have hz1 : (i : Int) < m := by omega
        obtain ⟨bb, oo, ha, hblt, rx0⟩ := rAt_at (HSL.out wA HB.out) hin0
        have hnb : (m : Int) ≤ 40 := by omega
        have HQ := Lib.hid (And.intro hqi (And.intro hm40 hin0))
        have hxl : (rAt 7 L i).length = 7 := rAt_len hl.out hin0
        have LX : Hid ((ints (rAt 7 L i)).length = 7) := Lib.hid (by rw [ints_len]; exact hxl)
        have CX := Lib.hid (rorder_row (rAt 7 L i) hxl (fun z hz => HF.out z (rAt_mem hz)) wA (HT.out wA HB.out).1 (HT.out wA HB.out).2)
        have HD : Hid (strs (HL ++ ordsL L i) ++ [.string (ordR (rAt 7 L i))] = strs (HL ++ ordsL L (i + 1))) := Lib.hid (by rw [ordsL, ← List.append_assoc, strs_app (HL ++ ordsL L i)]; rfl)
        generalize ordR (rAt 7 L i) = XB at *
        generalize rAt 7 L i = x at *
        have TX : RowT 27 (ints x).length := by rw [LX.out]; exact ord_row7
        subst ha
        clear hqi hin0 hxl hm40 hmn hnc
        go_wp2_with (first | ((with_reducible refine ld_row rx0 TX ?_ ?_ ?_); (· rfl); (· rfl); (simp only [Act.put, List.setIfInBounds_toArray, List.set_cons_zero, List.set_cons_succ])))
        refine CX.out.mono ?_
        rintro e wC ⟨rfl, hb⟩
        have HB3 := Lib.hid ((HB.out.trans (hb.mono (HG0.out ▸ HB.out.size))).alloc (Nat.le_trans (HG0.out ▸ HB.out.size) hb.size) (.cells #[.string XB] 9))
        have HO3 := Lib.hid (own_stay (own_stay HO.out hb) ((Below.refl _ _).alloc (Nat.le_refl _) (.cells #[.string XB] 9)))
        have A8 := Lib.hid ((A6.out.keep hb A6.out.lt).alloc (.cells #[.string XB] 9))
        have NEWS := Lib.hid (fun j u hj => cell_new1 wC (.string XB) 9 j u hj)
        clear hb HB HO A6 CX rx0 ca
        go_upto_region 8 with (first
          | (at_builtin; refine wpList_append_own_at _ rfl _ _ 45 rfl (g0 + 1) 9 i0 (.string ⟨#[]⟩) 1 16 Tryd.underlying45 hi hzz0 hzz1 hzz2 rfl (by decide) _ (i + 3) _ rfl HO3.out ⟨wC.heap.size, 0, none⟩ 1 1 [.string XB] rfl rfl NEWS.out (by simp [Value.oneCell']) ?c1 ?c2 (by have := A8.out.lt; omega) ?_))
        case c1 => simp only [maxLen]; have := HQ.out; omega
        case c2 => have := HQ.out; omega
        intro v6 w6 ho6 hg6 _ hv6
        have HB6 := Lib.hid (Below.grown HB3.out hg6 (HG0.out ▸ HB3.out.size) fun q hq => Nat.le_of_succ_le (HO3.out.lt q hq).1)
        have A9 := Lib.hid (blk_keepB A8.out hg6 fun q hq => by have := (HO3.out.lt q hq).1; omega)
        rw [HD.out] at ho6
        have HO6 := Lib.hid ho6
        clear ho6 hg6 hv6 HO3 HB3 NEWS A8
        go_wp2_with fail
        go_roundg (gk - 1)
        case measure => have := HQ.out; omega
        case rel => exact ⟨i + 1, by have := HQ.out; omega, by go_num, by rw [show i + 1 + 3 = i + 3 + 1 by omega]; exact HO6, A9, HB6⟩
      · have hik : i = m := by omega
        rw [hik] at HO
        have hin1 : ¬ (i : Int) < m := by omega
        have TB25 : RowT 44 CC.length := by rw [HLN.out]; exact bk_row
        have rb := A6.out.range 0 CC (by simp)
        have CB1 := Lib.hid (CBK.out wA HB.out)
        obtain ⟨v3, c3, rfl, _, _, hs3⟩ := Sl.own HO.out
        have HSW := Lib.hid hs3
        clear hs3 HO hik hqi hin0
        go_wp2_with (first | ((with_reducible refine ld_row rb TB25 ?_ ?_ ?_); (· rfl); (· rfl); (simp only [Act.put, List.setIfInBounds_toArray, List.set_cons_zero, List.set_cons_succ])))
        refine CB1.out.mono ?_
        rintro e wD ⟨v4, rfl, ho4, hb⟩
        obtain ⟨a4, c4, rfl, _, _, hs4⟩ := Sl.own ho4
        have HS4 := Lib.hid hs4
        have HSW2 := Lib.hid (HSW.out.keep hb)
        have HB7 := Lib.hid (HB.out.trans (hb.mono (HG0.out ▸ HB.out.size)))
        clear hs4 ho4 hb HSW HB rb ca A6
        have TS := Lib.hid (texts_same a4 v3 (m + 3) c4 c3 (HL ++ ordsL L m) wD HS4.out HSW2.out (by omega))
        go_wp2_with fail
        refine TS.out.mono ?_
        rintro e wE ⟨rfl, hb⟩
        have HB8 := Lib.hid (HB7.out.trans (hb.mono (HG0.out ▸ HB7.out.size)))
        clear hb
        go_wp2_with fail
        go_ret
        have hge := HG0.out
        subst hge
        exact ⟨rfl, HB8.out⟩
theorem books39_law (v0 : Value) (w : World) (hL : laidMet Tryd.prog Rows.outlineBooksRow.laid w) (h0 : Arg Tryd.prog w 44 v0) : Calls Tryd.prog 4 #[v0] w fun e w' => e = .returned (.bool true) ∧ Below w.heap.size w w' := by
  have hT : PTab w := ptab_of hL (l := Rows.outlineBooksRow.laid) (List.Mem.tail _ (List.Mem.tail _ (List.Mem.head _)))
  have hB : STab 1 bookW w := stab_of (t := 32) (n := 10) hL (l := Rows.outlineBooksRow.laid) (name := "countermand/booking.words") (List.Mem.tail _ (List.Mem.tail _ (List.Mem.tail _ (List.Mem.head _)))) (by kernel_rfl) (by kernel_rfl) Tryd.underlying32 rfl (by decide)
  have hS : STab 0 stW w := stab_of (t := 62) (n := 6) hL (l := Rows.outlineBooksRow.laid) (name := "countermand/outline.states") (List.Mem.tail _ (List.Mem.tail _ (List.Mem.tail _ (List.Mem.tail _ (List.Mem.head _))))) (by kernel_rfl) (by kernel_rfl) Tryd.underlying62 rfl (by decide)
  obtain ⟨s, p, u, a, n, c, L, rfl, h8, f1, f2, f3, h1, h2, h3, h4⟩ := h0.book39
  exact books39 s p u a n c L w h8 f1 f2 f3 h1 h2 h3 h4 hT hB hS
end Go.Proofs.YtaaefkadkciohaaDoor
