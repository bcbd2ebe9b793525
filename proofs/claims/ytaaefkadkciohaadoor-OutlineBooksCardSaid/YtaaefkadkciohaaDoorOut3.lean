/- The lines of changes. -/
import Derived.Test.YtaaefkadkciohaaDoorOut2
import Derived.Deep.DeepCutAuto
import Derived.Maps.AppendAt
import Derived.Test.YtaaefkadkciohaaDoorRow
import Derived.Test.YtaaefkadkciohaaDoorOps
import Derived.RegionTactic
import Derived.BigRegion
import Derived.ChangeAlike
namespace Go.Proofs.YtaaefkadkciohaaDoor
set_option linter.unusedVariables false
set_option linter.unusedSimpArgs false
open Go.ChangeShapes Go.WideShapes Go.ChangeAt Go.RowKit
def bookW : List (List UInt8) := [[], [114, 101, 115, 116, 111, 99, 107], [100, 101, 112, 111, 115, 105, 116], [112, 108, 97, 99, 101], [97, 109, 101, 110, 100], [99, 97, 110, 99, 101, 108], [112, 97, 121], [115, 104, 105, 112], [114, 101, 102, 117, 110, 100], [112, 114, 105, 99, 101]]
def bwB (i : Nat) : ByteArray := ⟨(bookW.getD i []).toArray⟩
def wordC (k : Int) : ByteArray := if 1 ≤ k ∧ k ≤ 9 then bwB k.toNat else ⟨#[63]⟩
theorem bwB_size (i : Nat) : (bwB i).size ≤ 7 := by
  by_cases h : i < 10
  · rcases i with _ | _ | _ | _ | _ | _ | _ | _ | _ | _ | i
    all_goals first | decide | omega
  · unfold bwB
    rw [List.getD_eq_getElem?_getD, List.getElem?_eq_none (by show 10 ≤ i; omega)]
    decide
theorem bwB_ne {i : Nat} (h0 : 1 ≤ i) (h : i < 10) : bwB i ≠ ⟨#[]⟩ := by
  rcases i with _ | _ | _ | _ | _ | _ | _ | _ | _ | _ | i
  all_goals first | decide | omega
theorem bwB_emp {i : Nat} (h0 : 1 ≤ i) (h : i < 10) : (bwB i).toList.isEmpty = false := by
  rcases i with _ | _ | _ | _ | _ | _ | _ | _ | _ | _ | i
  all_goals first | omega | (with_unfolding_all rfl) | (with_unfolding_all decide) | (decide +kernel) | (simp [bwB, bookW, ByteArray.toList, ByteArray.toList.loop])
theorem name_yes (kk : Nat) (h0 : 1 ≤ kk) (h9 : kk ≤ 9) (w : World) (hS : STab 1 bookW w) : Calls Tryd.prog 18 #[.int .i64 (kk : Int)] w fun e w' => e = .returned (.string (bwB kk)) ∧ w = w' := by
  have hk0 : (0 : Int) ≤ kk := by omega
  have hk1 : (kk : Int) < 10 := by omega
  have hk2 : ¬ (kk : Int) < 1 := by omega
  have hk3 : ¬ (9 : Int) < kk := by omega
  have cw : w.cell? ⟨1, kk, none⟩ = some (.string (bwB kk)) := hS.2 kk (by show kk < 10; omega)
  clear h0 h9 hS
  go_enter Tryd.func18, Tryd.ntmps18
  go_wp2_with fail
  go_ret
  exact ⟨rfl, rfl⟩
theorem name_no (k : Int) (h : ¬ (1 ≤ k ∧ k ≤ 9)) (w : World) : Calls Tryd.prog 18 #[.int .i64 k] w fun e w' => e = .returned (.string ⟨#[]⟩) ∧ w = w' := by
  by_cases h1 : k < 1
  · clear h
    go_enter Tryd.func18, Tryd.ntmps18
    go_wp2_with fail
    go_ret
    exact ⟨rfl, rfl⟩
  · have h2 : 9 < k := by omega
    clear h
    go_enter Tryd.func18, Tryd.ntmps18
    go_wp2_with fail
    go_ret
    exact ⟨rfl, rfl⟩
def chB (p q t k a b n p2 q2 : Int) : ByteArray :=
  let s := idB p q ++ ⟨#[32, 64]⟩ ++ itB t ++ ⟨#[32]⟩ ++ wordC k ++ numsB [a, b, n]
  if p2 = 0 ∧ q2 = 0 then s else s ++ (⟨#[32]⟩ ++ idB p2 q2)
theorem idB_small (p q : Int) (hp : fits p = true) (hq : fits q = true) : (idB p q).size ≤ 43 := by
  have s1 := itB_small p hp
  have s2 := itB_small q hq
  unfold idB
  rw [ByteArray.size_append, ByteArray.size_append]
  show _ + 1 + _ ≤ _
  omega
set_option maxRecDepth 100000 in
set_option maxHeartbeats 8000000 in
theorem change_any (p q t k a b n p2 q2 : Int) (w : World) (hf : ∀ z ∈ [p, q, t, k, a, b, n, p2, q2], fits z = true) (hT : PTab w) (hS : STab 1 bookW w) : Calls Tryd.prog 10 #[.agg #[.int .i64 p, .int .i64 q, .int .i64 t, .int .i64 k, .int .i64 a, .int .i64 b, .int .i64 n, .int .i64 p2, .int .i64 q2]] w fun e w' => e = .returned (.string (chB p q t k a b n p2 q2)) ∧ Below w.heap.size w w' := by
  have hfp := hf p (by simp)
  have hfq := hf q (by simp)
  have hft := hf t (by simp)
  have hfp2 := hf p2 (by simp)
  have hfq2 := hf q2 (by simp)
  have hf3 : ∀ z ∈ [a, b, n], fits z = true := fun z hz => hf z (by simp at hz ⊢; rcases hz with h | h | h <;> simp [h])
  have s1 := idB_small p q hfp hfq
  have s2 := itB_small t hft
  have s3 := idB_small p2 q2 hfp2 hfq2
  have s4 := numsB_size hf3
  simp only [List.length_cons, List.length_nil] at s4
  obtain ⟨RV, hRV⟩ : ∃ RV, RV = chB p q t k a b n p2 q2 := ⟨_, rfl⟩
  rw [← hRV]
  clear hf
  by_cases hkk : 1 ≤ k ∧ k ≤ 9
  · obtain ⟨kk, hkn⟩ : ∃ kk : Nat, (kk : Int) = k := ⟨k.toNat, by omega⟩
    have HKK : Hid (1 ≤ kk ∧ kk ≤ 9) := Lib.hid (by omega)
    have HW : wordC k = bwB kk := by unfold wordC; rw [if_pos hkk, show k.toNat = kk by omega]
    have hbne2 : (bwB kk).toList.isEmpty = false := bwB_emp (by omega) (by omega)
    have s5 := bwB_size kk
    have hhd : (idB p q ++ ⟨#[32, 64]⟩ ++ itB t ++ ⟨#[32]⟩ ++ bwB kk).size ≤ 1000 := by
      rw [ByteArray.size_append, ByteArray.size_append, ByteArray.size_append, ByteArray.size_append]
      have : (⟨#[32, 64]⟩ : ByteArray).size = 2 := rfl
      have : (⟨#[32]⟩ : ByteArray).size = 1 := rfl
      omega
    by_cases hz : p2 = 0 ∧ q2 = 0
    · have HRV : Hid (RV = idB p q ++ ⟨#[32, 64]⟩ ++ itB t ++ ⟨#[32]⟩ ++ bwB kk ++ numsB [a, b, n]) := Lib.hid (by rw [hRV]; unfold chB; rw [HW]; exact if_pos hz)
      clear hRV HW
      subst hkn
      have HB := Lib.hid ((Below.refl w.heap.size w).alloc (Nat.le_refl _) (.cells #[.int .i64 p, .int .i64 q, .int .i64 t, .int .i64 (kk : Int), .int .i64 a, .int .i64 b, .int .i64 n, .int .i64 p2, .int .i64 q2] 25))
      have A := Lib.hid (Blk.new w #[.int .i64 p, .int .i64 q, .int .i64 t, .int .i64 (kk : Int), .int .i64 a, .int .i64 b, .int .i64 n, .int .i64 p2, .int .i64 q2] 25)
      have NM := Lib.hid (fun w' (hb : Below w.heap.size w w') => name_yes kk (by have := HKK.out; omega) (by have := HKK.out; omega) w' (hS.keep hb))
      have CI := Lib.hid (fun w' (hb : Below w.heap.size w w') => show Calls Tryd.prog 19 #[.agg (ints [p, q]).toArray] w' _ from idtext_any p q w' hfp hfq (hT.keep hb))
      have CT := Lib.hid (fun w' (hb : Below w.heap.size w w') => itoa_any t w' hft (hT.keep hb))
      have CJ := Lib.hid (fun w' (hb : Below w.heap.size w w') => idtext_any p2 q2 w' hfp2 hfq2 (hT.keep hb))
      obtain ⟨HV, hHV⟩ : ∃ HV : ByteArray, HV = idB p q ++ ⟨#[32, 64]⟩ ++ itB t ++ ⟨#[32]⟩ ++ bwB kk := ⟨_, rfl⟩
      rw [← hHV] at hhd
      have RW3 := Lib.hid (fun a' c' w' (h : Sl w' a' 3 1 (ints [a, b, n])) (hb : Below w.heap.size w w') => row_any HV a' 3 c' [a, b, n] w' h (by decide) hhd hf3 (hT.keep hb))
      rw [hHV] at RW3
      have HNE := Lib.hid (id_ne hfp2 hfq2)
      rw [decide_eq_true hz] at HNE
      clear hT hS hf3 hfp hfq hft hfp2 hfq2 hz hkk hhd hHV
      go_enter Tryd.func10, Tryd.ntmps10
      go_upto_region 1 with fail
      generalize hg0 : w.heap.size = g0 at *
      have HG0 := Lib.hid hg0
      generalize (w.alloc (.cells #[.int .i64 p, .int .i64 q, .int .i64 t, .int .i64 (kk : Int), .int .i64 a, .int .i64 b, .int .i64 n, .int .i64 p2, .int .i64 q2] 25)) = w1 at *
      clear hg0
      have ck := A.out.cell 3
      have NM1 := Lib.hid (NM.out w1 HB.out)
      go_wp2_with fail
      refine NM1.out.mono ?_
      rintro e w2 ⟨rfl, rfl⟩
      clear ck NM NM1
      have A2 := A
      clear A
      have la := A2.out.lt
      generalize bwB kk = WB at *
      go_upto_region 4 with fail
      have CI1 := Lib.hid (fun w' (hb : Below w1.heap.size w1 w') => CI.out w' (HB.out.trans (hb.mono (HG0.out ▸ HB.out.size))))
      have CT1 := Lib.hid (fun w' (hb : Below w1.heap.size w1 w') => CT.out w' (HB.out.trans (hb.mono (HG0.out ▸ HB.out.size))))
      refine q_begin (by kernel_rfl) (by kernel_rfl) ?_
      repeat (first
        | go_big_quiet_skip
        | ((with_reducible apply q_part (xs := ints [p, q])); (· rfl); (· rfl); (· exact Tryd.underlying23); (· rfl); (· exact A2.out); (· exact la); (· rfl); (· exact id_row.2); (simp only [Act.put, List.setIfInBounds_toArray, List.set_cons_zero, List.set_cons_succ]))
        | ((with_reducible apply q_int); (· rfl); (· rfl); (· exact Tryd.underlying3); (· exact A2.out); (· exact la); (· rfl); (simp only [Act.put, List.setIfInBounds_toArray, List.set_cons_zero, List.set_cons_succ]))
        | ((with_reducible apply q_call 19 (.string (idB p q))); (· rfl); (· exact Nat.le_refl _); (· intro w hw; exact CI1.out w hw); (· intro w; go_simp); (simp only [Act.put, List.setIfInBounds_toArray, List.set_cons_zero, List.set_cons_succ]))
        | ((with_reducible apply q_call 20 (.string (itB t))); (· rfl); (· exact Nat.le_refl _); (· intro w hw; exact CT1.out w hw); (· intro w; go_simp); (simp only [Act.put, List.setIfInBounds_toArray, List.set_cons_zero, List.set_cons_succ]))
        | (go_big_quiet_want; go_big_quiet_op; (first | go_big_quiet_on | (apply Exists.intro; refine ⟨fun _ _ => rfl, ?_⟩; go_big_quiet_on))))
      refine q_end ?_
      intro w3 hb
      have HB3 := Lib.hid (HB.out.trans (hb.mono (HG0.out ▸ HB.out.size)))
      have A3 := Lib.hid (A2.out.keep hb la)
      clear hb HB A2 CI CI1 CT CT1 la
      have ca := A3.out.cell 4
      have cb := A3.out.cell 5
      have cn := A3.out.cell 6
      have HSL := Lib.hid (sl_lit w3 2 [a, b, n] (by simp))
      have HB4 := Lib.hid (HB3.out.alloc (HG0.out ▸ HB3.out.size) (.cells #[.int .i64 a, .int .i64 b, .int .i64 n] 2))
      have A4 := Lib.hid (A3.out.alloc (.cells #[.int .i64 a, .int .i64 b, .int .i64 n] 2))
      have RR := Lib.hid (RW3.out (some ⟨w3.heap.size, 0, none⟩) 3 (w3.alloc (.cells #[.int .i64 a, .int .i64 b, .int .i64 n] 2)) HSL.out HB4.out)
      go_wp2_with fail
      refine RR.out.mono ?_
      rintro e w5 ⟨rfl, hb⟩
      have HB5 := Lib.hid (HB4.out.trans (hb.mono (HG0.out ▸ HB4.out.size)))
      have A5 := Lib.hid (A4.out.keep hb A4.out.lt)
      clear hb ca cb cn HB3 A3 HB4 A4 HSL RR RW3
      have ri : w5.rangeAt g0 7 (ints [p2, q2]) := A5.out.range 7 (ints [p2, q2]) rfl
      go_wp2_with (first
        | ((with_reducible refine ld_row ri id_row ?_ ?_ ?_); (· rfl); (· rfl); (simp only [Act.put, List.setIfInBounds_toArray, List.set_cons_zero, List.set_cons_succ]))
        | ((with_reducible refine cmp_row id_guard HNE.out ?_ ?_ ?_ ?_); (· rfl); (· rfl); (· rfl); (simp only [Act.put, List.setIfInBounds_toArray, List.set_cons_zero, List.set_cons_succ])))
      go_ret
      have hge := HG0.out
      subst hge
      exact ⟨by rw [HRV.out]; rfl, HB5.out⟩

    · have HRV : Hid (RV = idB p q ++ ⟨#[32, 64]⟩ ++ itB t ++ ⟨#[32]⟩ ++ bwB kk ++ numsB [a, b, n] ++ (⟨#[32]⟩ ++ idB p2 q2)) := Lib.hid (by rw [hRV]; unfold chB; rw [HW]; exact if_neg hz)
      clear hRV HW
      subst hkn
      have HB := Lib.hid ((Below.refl w.heap.size w).alloc (Nat.le_refl _) (.cells #[.int .i64 p, .int .i64 q, .int .i64 t, .int .i64 (kk : Int), .int .i64 a, .int .i64 b, .int .i64 n, .int .i64 p2, .int .i64 q2] 25))
      have A := Lib.hid (Blk.new w #[.int .i64 p, .int .i64 q, .int .i64 t, .int .i64 (kk : Int), .int .i64 a, .int .i64 b, .int .i64 n, .int .i64 p2, .int .i64 q2] 25)
      have NM := Lib.hid (fun w' (hb : Below w.heap.size w w') => name_yes kk (by have := HKK.out; omega) (by have := HKK.out; omega) w' (hS.keep hb))
      have CI := Lib.hid (fun w' (hb : Below w.heap.size w w') => show Calls Tryd.prog 19 #[.agg (ints [p, q]).toArray] w' _ from idtext_any p q w' hfp hfq (hT.keep hb))
      have CT := Lib.hid (fun w' (hb : Below w.heap.size w w') => itoa_any t w' hft (hT.keep hb))
      have CJ := Lib.hid (fun w' (hb : Below w.heap.size w w') => idtext_any p2 q2 w' hfp2 hfq2 (hT.keep hb))
      obtain ⟨HV, hHV⟩ : ∃ HV : ByteArray, HV = idB p q ++ ⟨#[32, 64]⟩ ++ itB t ++ ⟨#[32]⟩ ++ bwB kk := ⟨_, rfl⟩
      rw [← hHV] at hhd
      have RW3 := Lib.hid (fun a' c' w' (h : Sl w' a' 3 1 (ints [a, b, n])) (hb : Below w.heap.size w w') => row_any HV a' 3 c' [a, b, n] w' h (by decide) hhd hf3 (hT.keep hb))
      rw [hHV] at RW3
      have HNE := Lib.hid (id_ne hfp2 hfq2)
      rw [decide_eq_false hz] at HNE
      clear hT hS hf3 hfp hfq hft hfp2 hfq2 hz hkk hhd hHV
      go_enter Tryd.func10, Tryd.ntmps10
      go_upto_region 1 with fail
      generalize hg0 : w.heap.size = g0 at *
      have HG0 := Lib.hid hg0
      generalize (w.alloc (.cells #[.int .i64 p, .int .i64 q, .int .i64 t, .int .i64 (kk : Int), .int .i64 a, .int .i64 b, .int .i64 n, .int .i64 p2, .int .i64 q2] 25)) = w1 at *
      clear hg0
      have ck := A.out.cell 3
      have NM1 := Lib.hid (NM.out w1 HB.out)
      go_wp2_with fail
      refine NM1.out.mono ?_
      rintro e w2 ⟨rfl, rfl⟩
      clear ck NM NM1
      have A2 := A
      clear A
      have la := A2.out.lt
      generalize bwB kk = WB at *
      go_upto_region 4 with fail
      have CI1 := Lib.hid (fun w' (hb : Below w1.heap.size w1 w') => CI.out w' (HB.out.trans (hb.mono (HG0.out ▸ HB.out.size))))
      have CT1 := Lib.hid (fun w' (hb : Below w1.heap.size w1 w') => CT.out w' (HB.out.trans (hb.mono (HG0.out ▸ HB.out.size))))
      refine q_begin (by kernel_rfl) (by kernel_rfl) ?_
      repeat (first
        | go_big_quiet_skip
        | ((with_reducible apply q_part (xs := ints [p, q])); (· rfl); (· rfl); (· exact Tryd.underlying23); (· rfl); (· exact A2.out); (· exact la); (· rfl); (· exact id_row.2); (simp only [Act.put, List.setIfInBounds_toArray, List.set_cons_zero, List.set_cons_succ]))
        | ((with_reducible apply q_int); (· rfl); (· rfl); (· exact Tryd.underlying3); (· exact A2.out); (· exact la); (· rfl); (simp only [Act.put, List.setIfInBounds_toArray, List.set_cons_zero, List.set_cons_succ]))
        | ((with_reducible apply q_call 19 (.string (idB p q))); (· rfl); (· exact Nat.le_refl _); (· intro w hw; exact CI1.out w hw); (· intro w; go_simp); (simp only [Act.put, List.setIfInBounds_toArray, List.set_cons_zero, List.set_cons_succ]))
        | ((with_reducible apply q_call 20 (.string (itB t))); (· rfl); (· exact Nat.le_refl _); (· intro w hw; exact CT1.out w hw); (· intro w; go_simp); (simp only [Act.put, List.setIfInBounds_toArray, List.set_cons_zero, List.set_cons_succ]))
        | (go_big_quiet_want; go_big_quiet_op; (first | go_big_quiet_on | (apply Exists.intro; refine ⟨fun _ _ => rfl, ?_⟩; go_big_quiet_on))))
      refine q_end ?_
      intro w3 hb
      have HB3 := Lib.hid (HB.out.trans (hb.mono (HG0.out ▸ HB.out.size)))
      have A3 := Lib.hid (A2.out.keep hb la)
      clear hb HB A2 CI CI1 CT CT1 la
      have ca := A3.out.cell 4
      have cb := A3.out.cell 5
      have cn := A3.out.cell 6
      have HSL := Lib.hid (sl_lit w3 2 [a, b, n] (by simp))
      have HB4 := Lib.hid (HB3.out.alloc (HG0.out ▸ HB3.out.size) (.cells #[.int .i64 a, .int .i64 b, .int .i64 n] 2))
      have A4 := Lib.hid (A3.out.alloc (.cells #[.int .i64 a, .int .i64 b, .int .i64 n] 2))
      have RR := Lib.hid (RW3.out (some ⟨w3.heap.size, 0, none⟩) 3 (w3.alloc (.cells #[.int .i64 a, .int .i64 b, .int .i64 n] 2)) HSL.out HB4.out)
      go_wp2_with fail
      refine RR.out.mono ?_
      rintro e w5 ⟨rfl, hb⟩
      have HB5 := Lib.hid (HB4.out.trans (hb.mono (HG0.out ▸ HB4.out.size)))
      have A5 := Lib.hid (A4.out.keep hb A4.out.lt)
      clear hb ca cb cn HB3 A3 HB4 A4 HSL RR RW3
      have ri : w5.rangeAt g0 7 (ints [p2, q2]) := A5.out.range 7 (ints [p2, q2]) rfl
      have CJ5 := Lib.hid (CJ.out w5 HB5.out)
      go_wp2_with (first
        | ((with_reducible refine ld_row ri id_row ?_ ?_ ?_); (· rfl); (· rfl); (simp only [Act.put, List.setIfInBounds_toArray, List.set_cons_zero, List.set_cons_succ]))
        | ((with_reducible refine cmp_row id_guard HNE.out ?_ ?_ ?_ ?_); (· rfl); (· rfl); (· rfl); (simp only [Act.put, List.setIfInBounds_toArray, List.set_cons_zero, List.set_cons_succ])))
      refine CJ5.out.mono ?_
      rintro e w6 ⟨rfl, hb⟩
      have HB6 := Lib.hid (HB5.out.trans (hb.mono (HG0.out ▸ HB5.out.size)))
      clear hb
      go_wp2_with fail
      go_ret
      have hge := HG0.out
      subst hge
      exact ⟨by rw [HRV.out]; rfl, HB6.out⟩


  · have HW : wordC k = ⟨#[63]⟩ := by unfold wordC; rw [if_neg hkk]
    have s5 := (show (⟨#[63]⟩ : ByteArray).size ≤ 7 by decide)
    have hhd : (idB p q ++ ⟨#[32, 64]⟩ ++ itB t ++ ⟨#[32]⟩ ++ ⟨#[63]⟩).size ≤ 1000 := by
      rw [ByteArray.size_append, ByteArray.size_append, ByteArray.size_append, ByteArray.size_append]
      have : (⟨#[32, 64]⟩ : ByteArray).size = 2 := rfl
      have : (⟨#[32]⟩ : ByteArray).size = 1 := rfl
      omega
    by_cases hz : p2 = 0 ∧ q2 = 0
    · have HRV : Hid (RV = idB p q ++ ⟨#[32, 64]⟩ ++ itB t ++ ⟨#[32]⟩ ++ ⟨#[63]⟩ ++ numsB [a, b, n]) := Lib.hid (by rw [hRV]; unfold chB; rw [HW]; exact if_pos hz)
      clear hRV HW
      skip
      have HB := Lib.hid ((Below.refl w.heap.size w).alloc (Nat.le_refl _) (.cells #[.int .i64 p, .int .i64 q, .int .i64 t, .int .i64 k, .int .i64 a, .int .i64 b, .int .i64 n, .int .i64 p2, .int .i64 q2] 25))
      have A := Lib.hid (Blk.new w #[.int .i64 p, .int .i64 q, .int .i64 t, .int .i64 k, .int .i64 a, .int .i64 b, .int .i64 n, .int .i64 p2, .int .i64 q2] 25)
      have NM := Lib.hid (fun w' (hb : Below w.heap.size w w') => name_no k hkk w')
      have CI := Lib.hid (fun w' (hb : Below w.heap.size w w') => show Calls Tryd.prog 19 #[.agg (ints [p, q]).toArray] w' _ from idtext_any p q w' hfp hfq (hT.keep hb))
      have CT := Lib.hid (fun w' (hb : Below w.heap.size w w') => itoa_any t w' hft (hT.keep hb))
      have CJ := Lib.hid (fun w' (hb : Below w.heap.size w w') => idtext_any p2 q2 w' hfp2 hfq2 (hT.keep hb))
      obtain ⟨HV, hHV⟩ : ∃ HV : ByteArray, HV = idB p q ++ ⟨#[32, 64]⟩ ++ itB t ++ ⟨#[32]⟩ ++ ⟨#[63]⟩ := ⟨_, rfl⟩
      rw [← hHV] at hhd
      have RW3 := Lib.hid (fun a' c' w' (h : Sl w' a' 3 1 (ints [a, b, n])) (hb : Below w.heap.size w w') => row_any HV a' 3 c' [a, b, n] w' h (by decide) hhd hf3 (hT.keep hb))
      rw [hHV] at RW3
      have HNE := Lib.hid (id_ne hfp2 hfq2)
      rw [decide_eq_true hz] at HNE
      clear hT hS hf3 hfp hfq hft hfp2 hfq2 hz hkk hhd hHV
      go_enter Tryd.func10, Tryd.ntmps10
      go_upto_region 1 with fail
      generalize hg0 : w.heap.size = g0 at *
      have HG0 := Lib.hid hg0
      generalize (w.alloc (.cells #[.int .i64 p, .int .i64 q, .int .i64 t, .int .i64 k, .int .i64 a, .int .i64 b, .int .i64 n, .int .i64 p2, .int .i64 q2] 25)) = w1 at *
      clear hg0
      have ck := A.out.cell 3
      have NM1 := Lib.hid (NM.out w1 HB.out)
      go_wp2_with fail
      refine NM1.out.mono ?_
      rintro e w2 ⟨rfl, rfl⟩
      clear ck NM NM1
      have A2 := A
      clear A
      have la := A2.out.lt
      skip
      go_upto_region 4 with fail
      have CI1 := Lib.hid (fun w' (hb : Below w1.heap.size w1 w') => CI.out w' (HB.out.trans (hb.mono (HG0.out ▸ HB.out.size))))
      have CT1 := Lib.hid (fun w' (hb : Below w1.heap.size w1 w') => CT.out w' (HB.out.trans (hb.mono (HG0.out ▸ HB.out.size))))
      refine q_begin (by kernel_rfl) (by kernel_rfl) ?_
      repeat (first
        | go_big_quiet_skip
        | ((with_reducible apply q_part (xs := ints [p, q])); (· rfl); (· rfl); (· exact Tryd.underlying23); (· rfl); (· exact A2.out); (· exact la); (· rfl); (· exact id_row.2); (simp only [Act.put, List.setIfInBounds_toArray, List.set_cons_zero, List.set_cons_succ]))
        | ((with_reducible apply q_int); (· rfl); (· rfl); (· exact Tryd.underlying3); (· exact A2.out); (· exact la); (· rfl); (simp only [Act.put, List.setIfInBounds_toArray, List.set_cons_zero, List.set_cons_succ]))
        | ((with_reducible apply q_call 19 (.string (idB p q))); (· rfl); (· exact Nat.le_refl _); (· intro w hw; exact CI1.out w hw); (· intro w; go_simp); (simp only [Act.put, List.setIfInBounds_toArray, List.set_cons_zero, List.set_cons_succ]))
        | ((with_reducible apply q_call 20 (.string (itB t))); (· rfl); (· exact Nat.le_refl _); (· intro w hw; exact CT1.out w hw); (· intro w; go_simp); (simp only [Act.put, List.setIfInBounds_toArray, List.set_cons_zero, List.set_cons_succ]))
        | (go_big_quiet_want; go_big_quiet_op; (first | go_big_quiet_on | (apply Exists.intro; refine ⟨fun _ _ => rfl, ?_⟩; go_big_quiet_on))))
      refine q_end ?_
      intro w3 hb
      have HB3 := Lib.hid (HB.out.trans (hb.mono (HG0.out ▸ HB.out.size)))
      have A3 := Lib.hid (A2.out.keep hb la)
      clear hb HB A2 CI CI1 CT CT1 la
      have ca := A3.out.cell 4
      have cb := A3.out.cell 5
      have cn := A3.out.cell 6
      have HSL := Lib.hid (sl_lit w3 2 [a, b, n] (by simp))
      have HB4 := Lib.hid (HB3.out.alloc (HG0.out ▸ HB3.out.size) (.cells #[.int .i64 a, .int .i64 b, .int .i64 n] 2))
      have A4 := Lib.hid (A3.out.alloc (.cells #[.int .i64 a, .int .i64 b, .int .i64 n] 2))
      have RR := Lib.hid (RW3.out (some ⟨w3.heap.size, 0, none⟩) 3 (w3.alloc (.cells #[.int .i64 a, .int .i64 b, .int .i64 n] 2)) HSL.out HB4.out)
      go_wp2_with fail
      refine RR.out.mono ?_
      rintro e w5 ⟨rfl, hb⟩
      have HB5 := Lib.hid (HB4.out.trans (hb.mono (HG0.out ▸ HB4.out.size)))
      have A5 := Lib.hid (A4.out.keep hb A4.out.lt)
      clear hb ca cb cn HB3 A3 HB4 A4 HSL RR RW3
      have ri : w5.rangeAt g0 7 (ints [p2, q2]) := A5.out.range 7 (ints [p2, q2]) rfl
      go_wp2_with (first
        | ((with_reducible refine ld_row ri id_row ?_ ?_ ?_); (· rfl); (· rfl); (simp only [Act.put, List.setIfInBounds_toArray, List.set_cons_zero, List.set_cons_succ]))
        | ((with_reducible refine cmp_row id_guard HNE.out ?_ ?_ ?_ ?_); (· rfl); (· rfl); (· rfl); (simp only [Act.put, List.setIfInBounds_toArray, List.set_cons_zero, List.set_cons_succ])))
      go_ret
      have hge := HG0.out
      subst hge
      exact ⟨by rw [HRV.out]; rfl, HB5.out⟩

    · have HRV : Hid (RV = idB p q ++ ⟨#[32, 64]⟩ ++ itB t ++ ⟨#[32]⟩ ++ ⟨#[63]⟩ ++ numsB [a, b, n] ++ (⟨#[32]⟩ ++ idB p2 q2)) := Lib.hid (by rw [hRV]; unfold chB; rw [HW]; exact if_neg hz)
      clear hRV HW
      skip
      have HB := Lib.hid ((Below.refl w.heap.size w).alloc (Nat.le_refl _) (.cells #[.int .i64 p, .int .i64 q, .int .i64 t, .int .i64 k, .int .i64 a, .int .i64 b, .int .i64 n, .int .i64 p2, .int .i64 q2] 25))
      have A := Lib.hid (Blk.new w #[.int .i64 p, .int .i64 q, .int .i64 t, .int .i64 k, .int .i64 a, .int .i64 b, .int .i64 n, .int .i64 p2, .int .i64 q2] 25)
      have NM := Lib.hid (fun w' (hb : Below w.heap.size w w') => name_no k hkk w')
      have CI := Lib.hid (fun w' (hb : Below w.heap.size w w') => show Calls Tryd.prog 19 #[.agg (ints [p, q]).toArray] w' _ from idtext_any p q w' hfp hfq (hT.keep hb))
      have CT := Lib.hid (fun w' (hb : Below w.heap.size w w') => itoa_any t w' hft (hT.keep hb))
      have CJ := Lib.hid (fun w' (hb : Below w.heap.size w w') => idtext_any p2 q2 w' hfp2 hfq2 (hT.keep hb))
      obtain ⟨HV, hHV⟩ : ∃ HV : ByteArray, HV = idB p q ++ ⟨#[32, 64]⟩ ++ itB t ++ ⟨#[32]⟩ ++ ⟨#[63]⟩ := ⟨_, rfl⟩
      rw [← hHV] at hhd
      have RW3 := Lib.hid (fun a' c' w' (h : Sl w' a' 3 1 (ints [a, b, n])) (hb : Below w.heap.size w w') => row_any HV a' 3 c' [a, b, n] w' h (by decide) hhd hf3 (hT.keep hb))
      rw [hHV] at RW3
      have HNE := Lib.hid (id_ne hfp2 hfq2)
      rw [decide_eq_false hz] at HNE
      clear hT hS hf3 hfp hfq hft hfp2 hfq2 hz hkk hhd hHV
      go_enter Tryd.func10, Tryd.ntmps10
      go_upto_region 1 with fail
      generalize hg0 : w.heap.size = g0 at *
      have HG0 := Lib.hid hg0
      generalize (w.alloc (.cells #[.int .i64 p, .int .i64 q, .int .i64 t, .int .i64 k, .int .i64 a, .int .i64 b, .int .i64 n, .int .i64 p2, .int .i64 q2] 25)) = w1 at *
      clear hg0
      have ck := A.out.cell 3
      have NM1 := Lib.hid (NM.out w1 HB.out)
      go_wp2_with fail
      refine NM1.out.mono ?_
      rintro e w2 ⟨rfl, rfl⟩
      clear ck NM NM1
      have A2 := A
      clear A
      have la := A2.out.lt
      skip
      go_upto_region 4 with fail
      have CI1 := Lib.hid (fun w' (hb : Below w1.heap.size w1 w') => CI.out w' (HB.out.trans (hb.mono (HG0.out ▸ HB.out.size))))
      have CT1 := Lib.hid (fun w' (hb : Below w1.heap.size w1 w') => CT.out w' (HB.out.trans (hb.mono (HG0.out ▸ HB.out.size))))
      refine q_begin (by kernel_rfl) (by kernel_rfl) ?_
      repeat (first
        | go_big_quiet_skip
        | ((with_reducible apply q_part (xs := ints [p, q])); (· rfl); (· rfl); (· exact Tryd.underlying23); (· rfl); (· exact A2.out); (· exact la); (· rfl); (· exact id_row.2); (simp only [Act.put, List.setIfInBounds_toArray, List.set_cons_zero, List.set_cons_succ]))
        | ((with_reducible apply q_int); (· rfl); (· rfl); (· exact Tryd.underlying3); (· exact A2.out); (· exact la); (· rfl); (simp only [Act.put, List.setIfInBounds_toArray, List.set_cons_zero, List.set_cons_succ]))
        | ((with_reducible apply q_call 19 (.string (idB p q))); (· rfl); (· exact Nat.le_refl _); (· intro w hw; exact CI1.out w hw); (· intro w; go_simp); (simp only [Act.put, List.setIfInBounds_toArray, List.set_cons_zero, List.set_cons_succ]))
        | ((with_reducible apply q_call 20 (.string (itB t))); (· rfl); (· exact Nat.le_refl _); (· intro w hw; exact CT1.out w hw); (· intro w; go_simp); (simp only [Act.put, List.setIfInBounds_toArray, List.set_cons_zero, List.set_cons_succ]))
        | (go_big_quiet_want; go_big_quiet_op; (first | go_big_quiet_on | (apply Exists.intro; refine ⟨fun _ _ => rfl, ?_⟩; go_big_quiet_on))))
      refine q_end ?_
      intro w3 hb
      have HB3 := Lib.hid (HB.out.trans (hb.mono (HG0.out ▸ HB.out.size)))
      have A3 := Lib.hid (A2.out.keep hb la)
      clear hb HB A2 CI CI1 CT CT1 la
      have ca := A3.out.cell 4
      have cb := A3.out.cell 5
      have cn := A3.out.cell 6
      have HSL := Lib.hid (sl_lit w3 2 [a, b, n] (by simp))
      have HB4 := Lib.hid (HB3.out.alloc (HG0.out ▸ HB3.out.size) (.cells #[.int .i64 a, .int .i64 b, .int .i64 n] 2))
      have A4 := Lib.hid (A3.out.alloc (.cells #[.int .i64 a, .int .i64 b, .int .i64 n] 2))
      have RR := Lib.hid (RW3.out (some ⟨w3.heap.size, 0, none⟩) 3 (w3.alloc (.cells #[.int .i64 a, .int .i64 b, .int .i64 n] 2)) HSL.out HB4.out)
      go_wp2_with fail
      refine RR.out.mono ?_
      rintro e w5 ⟨rfl, hb⟩
      have HB5 := Lib.hid (HB4.out.trans (hb.mono (HG0.out ▸ HB4.out.size)))
      have A5 := Lib.hid (A4.out.keep hb A4.out.lt)
      clear hb ca cb cn HB3 A3 HB4 A4 HSL RR RW3
      have ri : w5.rangeAt g0 7 (ints [p2, q2]) := A5.out.range 7 (ints [p2, q2]) rfl
      have CJ5 := Lib.hid (CJ.out w5 HB5.out)
      go_wp2_with (first
        | ((with_reducible refine ld_row ri id_row ?_ ?_ ?_); (· rfl); (· rfl); (simp only [Act.put, List.setIfInBounds_toArray, List.set_cons_zero, List.set_cons_succ]))
        | ((with_reducible refine cmp_row id_guard HNE.out ?_ ?_ ?_ ?_); (· rfl); (· rfl); (· rfl); (simp only [Act.put, List.setIfInBounds_toArray, List.set_cons_zero, List.set_cons_succ])))
      refine CJ5.out.mono ?_
      rintro e w6 ⟨rfl, hb⟩
      have HB6 := Lib.hid (HB5.out.trans (hb.mono (HG0.out ▸ HB5.out.size)))
      clear hb
      go_wp2_with fail
      go_ret
      have hge := HG0.out
      subst hge
      exact ⟨by rw [HRV.out]; rfl, HB6.out⟩


end Go.Proofs.YtaaefkadkciohaaDoor
