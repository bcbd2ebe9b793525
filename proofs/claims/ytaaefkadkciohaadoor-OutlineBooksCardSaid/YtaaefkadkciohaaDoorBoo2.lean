/- outline.Book. -/
import Derived.Test.YtaaefkadkciohaaDoorBoo
import Derived.Deep.DeepCutAuto
import Derived.Maps.AppendAt
import Derived.Test.YtaaefkadkciohaaDoorRow
import Derived.Test.YtaaefkadkciohaaDoorOps
import Derived.RegionTactic
import Derived.BigRegion
import Derived.ChangeAlike
namespace Go.Proofs.YtaaefkadkciohaaDoor
set_option linter.unusedVariables false
set_option linter.unusedSimpArgs false
open Go.ChangeShapes Go.WideShapes Go.ChangeAt Go.RowKit
set_option maxRecDepth 100000 in
set_option maxHeartbeats 8000000 in
theorem book_any (s p u : List Int) (a : Option Addr) (n c : Nat) (L : List Int) (w : World) (h8 : s.length = 8 ∧ p.length = 8 ∧ u.length = 8) (hfs : ∀ z ∈ s, fits z = true) (hfp : ∀ z ∈ p, fits z = true) (hfu : ∀ z ∈ u, fits z = true) (hsl : Sl w a n 7 (ints L)) (hfl : ∀ z ∈ L, fits z = true) (hn : n ≤ 40) (hT : PTab w) (hS : STab 0 stW w) :
    Calls Tryd.prog 15 #[.agg (bk39 s p u (.slice a n c)).toArray] w fun e w' => ∃ v, e = .returned v ∧ w'.ownsRow w.heap.size 9 1 v (n + 3) (strs (headL s p u ++ ordsL L n)) ∧ Below w.heap.size w w' := by
  obtain ⟨i0, hi, hzz0, hzz1, hzz2⟩ := info_parts str_info
  have hl : Hid (L.length = n * 7) := Lib.hid (by have := hsl.1; rwa [ints_len] at this)
  have HB := Lib.hid ((Below.refl w.heap.size w).alloc (Nat.le_refl _) (.cells (bk39 s p u (.slice a n c)).toArray 44))
  have A := Lib.hid (Blk.new w (bk39 s p u (.slice a n c)).toArray 44)
  rw [List.toList_toArray] at A
  have HS := Lib.hid (fun w' (hb : Below w.heap.size w w') => hsl.keep hb)
  have HF := Lib.hid hfl
  have HT := Lib.hid (fun w' (hb : Below w.heap.size w w') => And.intro (hT.keep hb) (hS.keep hb))
  have e1 : ((bk39 s p u (.slice a n c)).drop 0).take 8 = ints s := by simp [bk39, List.take_append, ints_len, h8.1]
  have e2 : ((bk39 s p u (.slice a n c)).drop 8).take 8 = ints p := by simp [bk39, List.drop_append, List.take_append, ints_len, h8.1, h8.2.1]
  have e3 : ((bk39 s p u (.slice a n c)).drop 16).take 8 = ints u := by simp [bk39, List.drop_append, List.take_append, ints_len, h8.1, h8.2.1, h8.2.2]
  have e4 : (bk39 s p u (.slice a n c))[24]? = some (.slice a n c) := by simp [bk39, ints_len, h8.1, h8.2.1, h8.2.2]
  have hlen := bk39_len h8.1 h8.2.1 h8.2.2 (.slice a n c)
  have C10 := Lib.hid (fun w' (hb : Below w.heap.size w w') (h : Blk w' w.heap.size (bk39 s p u (.slice a n c)) 44) => row_any ⟨#[115, 116, 111, 99, 107]⟩ (some ⟨w.heap.size, 0, none⟩) 8 8 s w' (sl_part h e1 (by rw [ints_len]; exact h8.1) (by omega)) (by decide) (by decide) hfs (hT.keep hb))
  have C20 := Lib.hid (fun w' (hb : Below w.heap.size w w') (h : Blk w' w.heap.size (bk39 s p u (.slice a n c)) 44) => row_any ⟨#[112, 114, 105, 99, 101]⟩ (some ⟨w.heap.size, 8, none⟩) 8 8 p w' (sl_part h e2 (by rw [ints_len]; exact h8.2.1) (by omega)) (by decide) (by decide) hfp (hT.keep hb))
  have C30 := Lib.hid (fun w' (hb : Below w.heap.size w w') (h : Blk w' w.heap.size (bk39 s p u (.slice a n c)) 44) => row_any ⟨#[112, 117, 114, 115, 101]⟩ (some ⟨w.heap.size, 16, none⟩) 8 8 u w' (sl_part h e3 (by rw [ints_len]; exact h8.2.2) (by omega)) (by decide) (by decide) hfu (hT.keep hb))
  have E4 := Lib.hid e4
  obtain ⟨HL, hHL⟩ : ∃ HL, HL = headL s p u := ⟨_, rfl⟩
  rw [← hHL]
  have HHL : Hid (strs HL = [.string (⟨#[115, 116, 111, 99, 107]⟩ ++ numsB s), .string (⟨#[112, 114, 105, 99, 101]⟩ ++ numsB p), .string (⟨#[112, 117, 114, 115, 101]⟩ ++ numsB u)]) := Lib.hid (by rw [hHL]; rfl)
  generalize ⟨#[115, 116, 111, 99, 107]⟩ ++ numsB s = S1 at *
  generalize ⟨#[112, 114, 105, 99, 101]⟩ ++ numsB p = S2 at *
  generalize ⟨#[112, 117, 114, 115, 101]⟩ ++ numsB u = S3 at *
  clear h8 hfs hfp hfu hsl hfl hT hS e1 e2 e3 e4 hlen hHL
  generalize bk39 s p u (.slice a n c) = CC at *
  go_enter Tryd.func15, Tryd.ntmps15
  go_upto_region 1 with fail
  generalize hg0 : w.heap.size = g0 at *
  have HG0 := Lib.hid hg0
  generalize w.alloc (.cells CC.toArray 44) = w1 at *
  clear hg0
  have C1 := Lib.hid (fun w' (hb : Below w1.heap.size w1 w') => C10.out w' (HB.out.trans (hb.mono (HG0.out ▸ HB.out.size))) (A.out.keep hb A.out.lt))
  have C2 := Lib.hid (fun w' (hb : Below w1.heap.size w1 w') => C20.out w' (HB.out.trans (hb.mono (HG0.out ▸ HB.out.size))) (A.out.keep hb A.out.lt))
  have C3 := Lib.hid (fun w' (hb : Below w1.heap.size w1 w') => C30.out w' (HB.out.trans (hb.mono (HG0.out ▸ HB.out.size))) (A.out.keep hb A.out.lt))
  clear C10 C20 C30
  refine held_begin (fun w' => Below w1.heap.size w1 w') 11 [false, false, false, false, false, false, false, false, false, false, false] (by kernel_rfl) rfl (by rfl) ?_
  have hHeld : Below w1.heap.size w1 w1.drew := (Below.refl _ _).drew
  refine held_take (v := ?_) 0 6 [true, false, false, false, false, false, false, false, false, false, false] rfl (by rfl) (by rfl) (by kernel_rfl) (by kernel_rfl) (by kernel_rfl) (by rfl) (fun _ _ _ h => h) ?_ hHeld ?_
  rotate_left
  · intro w hSw; go_simp <;> with_reducible rfl
  simp only [Act.put, List.setIfInBounds_toArray, List.set_cons_zero, List.set_cons_succ]
  refine held_take (v := .slice (some ⟨g0, 0, none⟩) 8 8) 1 7 [true, true, false, false, false, false, false, false, false, false, false] rfl (by rfl) (by rfl) (by kernel_rfl) (by kernel_rfl) (by kernel_rfl) (by rfl) (fun _ _ _ h => h) (fun w' h => slice_arr rfl rfl trivial trivial) hHeld ?_
  simp only [Act.put, List.setIfInBounds_toArray, List.set_cons_zero, List.set_cons_succ]
  refine held_take (v := ?_) 3 9 [true, true, false, true, false, false, false, false, false, false, false] rfl (by rfl) (by rfl) (by kernel_rfl) (by kernel_rfl) (by kernel_rfl) (by rfl) (fun _ _ _ h => h) ?_ hHeld ?_
  rotate_left
  · intro w hSw; go_simp <;> with_reducible rfl
  simp only [Act.put, List.setIfInBounds_toArray, List.set_cons_zero, List.set_cons_succ]
  refine held_take (v := .slice (some ⟨g0, 8, none⟩) 8 8) 4 10 [true, true, false, true, true, false, false, false, false, false, false] rfl (by rfl) (by rfl) (by kernel_rfl) (by kernel_rfl) (by kernel_rfl) (by rfl) (fun _ _ _ h => h) (fun w' h => slice_arr rfl rfl trivial trivial) hHeld ?_
  simp only [Act.put, List.setIfInBounds_toArray, List.set_cons_zero, List.set_cons_succ]
  refine held_take (v := ?_) 6 12 [true, true, false, true, true, false, true, false, false, false, false] rfl (by rfl) (by rfl) (by kernel_rfl) (by kernel_rfl) (by kernel_rfl) (by rfl) (fun _ _ _ h => h) ?_ hHeld ?_
  rotate_left
  · intro w hSw; go_simp <;> with_reducible rfl
  simp only [Act.put, List.setIfInBounds_toArray, List.set_cons_zero, List.set_cons_succ]
  refine held_take (v := .slice (some ⟨g0, 16, none⟩) 8 8) 7 13 [true, true, false, true, true, false, true, true, false, false, false] rfl (by rfl) (by rfl) (by kernel_rfl) (by kernel_rfl) (by kernel_rfl) (by rfl) (fun _ _ _ h => h) (fun w' h => slice_arr rfl rfl trivial trivial) hHeld ?_
  simp only [Act.put, List.setIfInBounds_toArray, List.set_cons_zero, List.set_cons_succ]
  refine held_call 2 8 [true, true, true, true, true, false, true, true, false, false, false] (by kernel_rfl) rfl (by rfl) (by rfl) (by rfl) (by go_simp) ((C1.out _ hHeld).mono ?_)
  rintro e w4 ⟨rfl, hb4⟩
  refine ⟨_, rfl, hHeld.trans (hb4.mono hHeld.size), fun hHeld => ?_⟩
  simp only [Act.put, List.setIfInBounds_toArray, List.set_cons_zero, List.set_cons_succ]
  refine held_call 5 11 [true, true, true, true, true, true, true, true, false, false, false] (by kernel_rfl) rfl (by rfl) (by rfl) (by rfl) (by go_simp) ((C2.out _ hHeld).mono ?_)
  rintro e w7 ⟨rfl, hb7⟩
  refine ⟨_, rfl, hHeld.trans (hb7.mono hHeld.size), fun hHeld => ?_⟩
  simp only [Act.put, List.setIfInBounds_toArray, List.set_cons_zero, List.set_cons_succ]
  refine held_call 8 14 [true, true, true, true, true, true, true, true, true, false, false] (by kernel_rfl) rfl (by rfl) (by rfl) (by rfl) (by go_simp) ((C3.out _ hHeld).mono ?_)
  rintro e w10 ⟨rfl, hb10⟩
  refine ⟨_, rfl, hHeld.trans (hb10.mono hHeld.size), fun hHeld => ?_⟩
  simp only [Act.put, List.setIfInBounds_toArray, List.set_cons_zero, List.set_cons_succ]
  have hal := (Below.refl w10.heap.size w10).alloc (Nat.le_refl _) (.cells #[.string S1, .string S2, .string S3] 9)
  refine held_one 9 (by kernel_rfl) ?_
  refine op_value (v := .slice (some ⟨w10.heap.size, 0, none⟩) 3 3) 15 [true, true, true, true, true, true, true, true, true, true, false] rfl (by rfl) (by rfl) (by rfl) (by go_simp <;> rfl) (hHeld.trans (hal.mono hHeld.size)) fun hHeld => ?_
  simp only [Act.put, List.setIfInBounds_toArray, List.set_cons_zero, List.set_cons_succ]
  refine held_take (v := ?_) 10 3 [true, true, true, true, true, true, true, true, true, true, true] rfl (by rfl) (by rfl) (by kernel_rfl) (by kernel_rfl) (by kernel_rfl) (by rfl) (fun _ _ _ h => h) ?_ hHeld ?_
  rotate_left
  · intro w hSw; go_simp <;> with_reducible rfl
  simp only [Act.put, List.setIfInBounds_toArray, List.set_cons_zero, List.set_cons_succ]
  refine held_done (by kernel_rfl) ?_
  have HO1 := Lib.hid (own_lit w10 g0 9 [.string S1, .string S2, .string S3] (Nat.le_trans (HG0.out ▸ HB.out.size) (by have := hHeld.size; have h2 := hb10.size; have h3 := hb7.size; have h4 := hb4.size; simp at this h2 h3 h4 ⊢; omega)) (by simp [maxLen]))
  have HB2 := Lib.hid (HB.out.trans (hHeld.mono (HG0.out ▸ HB.out.size)))
  have A2 := Lib.hid (A.out.keep hHeld A.out.lt)
  clear hHeld hb4 hb7 hb10 hal HB A C1 C2 C3
  generalize hgs : w10.heap.size = gs at *
  have HO1 : Hid ((w10.alloc (.cells #[.string S1, .string S2, .string S3] 9)).ownsRow g0 9 1 (.slice (some ⟨gs, 0, none⟩) 3 3) 3 [.string S1, .string S2, .string S3]) := HO1
  generalize w10.alloc (.cells #[.string S1, .string S2, .string S3] 9) = wS at *
  clear hgs
  rw [← HHL.out] at HO1
  have ca := A2.out.cell 24
  rw [E4.out] at ca
  go_wp2_with fail
  clear ca A2
  go_loopg [3, 19] n (fun qq s3 s19 wr => ∃ i : Nat, qq + i = n ∧ s19 = .int .i64 i ∧ Hid (wr.ownsRow g0 9 1 s3 (i + 3) (strs (HL ++ ordsL L i))) ∧ Hid (Below g0 w wr))
  case atStart => exact ⟨0, by omega, rfl, by rw [show ordsL L 0 = [] from rfl, List.append_nil]; exact HO1, HB2⟩
  case round =>
    clear HO1 HB2
    obtain ⟨i, hqi, rfl, HO, HB⟩ := hrel
    generalize wr = wA at *
    by_cases hin0 : i < n
    · have hz0 : (0 : Int) ≤ i := by omega
      have hz1 : (i : Int) < n := by omega
      obtain ⟨bb, oo, ha, hblt, rx0⟩ := rAt_at (HS.out wA HB.out) hin0
      have hnb : (n : Int) ≤ 40 := by omega
      have HQ := Lib.hid (And.intro hqi (And.intro hn hin0))
      have hxl : (rAt 7 L i).length = 7 := rAt_len hl.out hin0
      have LX : Hid ((ints (rAt 7 L i)).length = 7) := Lib.hid (by rw [ints_len]; exact hxl)
      have CX := Lib.hid (fun w' (hb : Below g0 w w') => order_row (rAt 7 L i) hxl (fun z hz => HF.out z (rAt_mem hz)) w' (HT.out w' hb).1 (HT.out w' hb).2)
      have HD : Hid (strs (HL ++ ordsL L i) ++ [.string (ordR (rAt 7 L i))] = strs (HL ++ ordsL L (i + 1))) := Lib.hid (by rw [ordsL, ← List.append_assoc, strs_app (HL ++ ordsL L i)]; rfl)
      generalize ordR (rAt 7 L i) = XB at *
      generalize rAt 7 L i = x at *
      have TX : RowT 27 (ints x).length := by rw [LX.out]; exact ord_row7
      have OX : Hid (∀ u ∈ ints x, u.oneCell' = true) := Lib.hid fun u hu => ints_one hu
      have A0 := Lib.hid (Blk.new wA (ints x).toArray 27)
      have HB1 := Lib.hid (HB.out.alloc (HG0.out ▸ HB.out.size) (.cells (ints x).toArray 27))
      have HO1 := Lib.hid (own_stay HO.out ((Below.refl _ _).alloc (Nat.le_refl _) (.cells (ints x).toArray 27)))
      rw [List.toList_toArray] at A0
      subst ha
      clear hqi hin0 hxl HB HO hn
      go_upto_region 5 with (first
        | ((with_reducible refine ld_row rx0 TX ?_ ?_ ?_); (· rfl); (· rfl); (simp only [Act.put, List.setIfInBounds_toArray, List.set_cons_zero, List.set_cons_succ]))
        | ((with_reducible refine st_row_new (cs := ints x) TX OX.out ?_ ?_ ?_ ?_); (· first | rfl | simp); (· rfl); (· exact LX.out.symm); (simp only [Act.put, List.setIfInBounds_toArray, List.set_cons_zero, List.set_cons_succ])))
      have rx := A0.out.range 0 (ints x) (by simp)
      clear rx0 A0
      generalize hgx : wA.heap.size = gx at *
      generalize wA.alloc (.cells (ints x).toArray 27) = wB at *
      clear hgx
      have CX1 := Lib.hid (CX.out wB HB1.out)
      clear CX
      go_wp2_with (first | ((with_reducible refine ld_row rx TX ?_ ?_ ?_); (· rfl); (· rfl); (simp only [Act.put, List.setIfInBounds_toArray, List.set_cons_zero, List.set_cons_succ])))
      refine CX1.out.mono ?_
      rintro e wC ⟨rfl, hb⟩
      have HB3 := Lib.hid ((HB1.out.trans (hb.mono (HG0.out ▸ HB1.out.size))).alloc (Nat.le_trans (HG0.out ▸ HB1.out.size) hb.size) (.cells #[.string XB] 9))
      have HO3 := Lib.hid (own_stay (own_stay HO1.out hb) ((Below.refl _ _).alloc (Nat.le_refl _) (.cells #[.string XB] 9)))
      have NEWS := Lib.hid (fun j u hj => cell_new1 wC (.string XB) 9 j u hj)
      clear hb HB1 HO1 CX1 rx
      go_upto_region 6 with (first
        | (at_builtin; refine wpList_append_own_at _ rfl _ _ 45 rfl g0 9 i0 (.string ⟨#[]⟩) 1 16 Tryd.underlying45 hi hzz0 hzz1 hzz2 rfl (by decide) _ (i + 3) _ rfl HO3.out ⟨wC.heap.size, 0, none⟩ 1 1 [.string XB] rfl rfl NEWS.out (by simp [Value.oneCell']) ?c1 ?c2 (HG0.out ▸ HB3.out.size) ?_))
      case c1 => simp only [maxLen]; have := HQ.out; omega
      case c2 => have := HQ.out; omega
      intro v6 w6 ho6 hg6 _ hv6
      have HB6 := Lib.hid (Below.grown HB3.out hg6 (HG0.out ▸ HB3.out.size) fun q hq => (HO3.out.lt q hq).1)
      rw [HD.out] at ho6
      have HO6 := Lib.hid ho6
      clear ho6 hg6 hv6 HO3 HB3 NEWS
      go_wp2_with fail
      go_roundg (gk - 1)
      case measure => have := HQ.out; omega
      case rel => exact ⟨i + 1, by have := HQ.out; omega, by go_num, by rw [show i + 1 + 3 = i + 3 + 1 by omega]; exact HO6, HB6⟩
    · have hik : i = n := by omega
      rw [hik] at HO
      have hin1 : ¬ (i : Int) < n := by omega
      go_wp2_with fail
      go_ret
      have hge := HG0.out
      subst hge
      exact ⟨_, rfl, HO.out, HB.out⟩
end Go.Proofs.YtaaefkadkciohaaDoor
