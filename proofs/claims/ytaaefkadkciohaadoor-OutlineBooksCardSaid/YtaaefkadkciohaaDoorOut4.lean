/- The lines of orders. -/
import Derived.Test.YtaaefkadkciohaaDoorOut3
import Derived.Deep.DeepCutAuto
import Derived.Maps.AppendAt
import Derived.Test.YtaaefkadkciohaaDoorRow
import Derived.Test.YtaaefkadkciohaaDoorOps
import Derived.RegionTactic
import Derived.BigRegion
import Derived.ChangeAlike
namespace Go.Proofs.YtaaefkadkciohaaDoor
set_option linter.unusedVariables false
set_option linter.unusedSimpArgs false
open Go.ChangeShapes Go.WideShapes Go.ChangeAt Go.RowKit
theorem run_op_adds {o : Oper} {a : Act} {w : World} {x y : Operand} {rt : TypeId} {s t : ByteArray} (ho : o.op = .binOp .add 9 x y rt) (hx : a.eval x = .string s) (hy : a.eval y = .string t) (h : s.size + t.size ≤ 100000) : (execOp a.eval o).run Tryd.prog w = .ok (.value (.string (s ++ t))) w := by
  unfold execOp
  simp only [ho, hx, hy]
  simp [go_sem]
  omega
def stW : List (List UInt8) := [[63], [112, 108, 97, 99, 101, 100], [112, 97, 105, 100], [115, 104, 105, 112, 112, 101, 100], [99, 97, 110, 99, 101, 108, 108, 101, 100], [114, 101, 112, 97, 105, 100]]
def stB (i : Nat) : ByteArray := ⟨(stW.getD i []).toArray⟩
def wordO (k : Int) : ByteArray := if 1 ≤ k ∧ k ≤ 5 then stB k.toNat else ⟨#[63]⟩
theorem stB_size (i : Nat) : (stB i).size ≤ 9 := by
  by_cases h : i < 6
  · rcases i with _ | _ | _ | _ | _ | _ | i
    all_goals first | decide | omega
  · unfold stB
    rw [List.getD_eq_getElem?_getD, List.getElem?_eq_none (by show 6 ≤ i; omega)]
    decide
def ordB (p q bu it qt co st : Int) : ByteArray := idB p q ++ ⟨#[32]⟩ ++ wordO st ++ numsB [bu, it, qt, co]
theorem st_blk (w : World) (i : Nat) (hi : i < 6) : (w.alloc (.cells #[.string ⟨#[63]⟩, .string ⟨#[112, 108, 97, 99, 101, 100]⟩, .string ⟨#[112, 97, 105, 100]⟩, .string ⟨#[115, 104, 105, 112, 112, 101, 100]⟩, .string ⟨#[99, 97, 110, 99, 101, 108, 108, 101, 100]⟩, .string ⟨#[114, 101, 112, 97, 105, 100]⟩] 62)).cell? ⟨w.heap.size, i, none⟩ = some (.string (stB i)) := by
  rw [(Blk.new w #[.string ⟨#[63]⟩, .string ⟨#[112, 108, 97, 99, 101, 100]⟩, .string ⟨#[112, 97, 105, 100]⟩, .string ⟨#[115, 104, 105, 112, 112, 101, 100]⟩, .string ⟨#[99, 97, 110, 99, 101, 108, 108, 101, 100]⟩, .string ⟨#[114, 101, 112, 97, 105, 100]⟩] 62).cell i]
  rcases i with _ | _ | _ | _ | _ | _ | i
  all_goals first | rfl | omega
set_option maxRecDepth 100000 in
set_option maxHeartbeats 8000000 in
theorem order_any (p q bu it qt co st : Int) (w : World) (hf : ∀ z ∈ [p, q, bu, it, qt, co, st], fits z = true) (hT : PTab w) (hS : STab 0 stW w) : Calls Tryd.prog 11 #[.agg #[.int .i64 p, .int .i64 q, .int .i64 bu, .int .i64 it, .int .i64 qt, .int .i64 co, .int .i64 st]] w fun e w' => e = .returned (.string (ordB p q bu it qt co st)) ∧ Below w.heap.size w w' := by
  have hfp := hf p (by simp)
  have hfq := hf q (by simp)
  have hf4 : ∀ z ∈ [bu, it, qt, co], fits z = true := fun z hz => hf z (by simp at hz ⊢; rcases hz with h | h | h | h <;> simp [h])
  have s1 := idB_small p q hfp hfq
  have s4 := numsB_size hf4
  simp only [List.length_cons, List.length_nil] at s4
  have sb : (⟨#[32]⟩ : ByteArray).size = 1 := rfl
  have hs1 : (idB p q).size + (⟨#[32]⟩ : ByteArray).size ≤ 100000 := by omega
  have hs1s : (idB p q ++ ⟨#[32]⟩).size ≤ 44 := by rw [ByteArray.size_append]; omega
  obtain ⟨RV, hRV⟩ : ∃ RV, RV = ordB p q bu it qt co st := ⟨_, rfl⟩
  rw [← hRV]
  clear hf
  by_cases hkk : 1 ≤ st ∧ st ≤ 5
  · obtain ⟨kk, hkn⟩ : ∃ kk : Nat, (kk : Int) = st := ⟨st.toNat, by omega⟩
    have HKK : Hid (1 ≤ kk ∧ kk ≤ 5) := Lib.hid (by omega)
    have s5 := stB_size kk
    have hs2 : (idB p q ++ ⟨#[32]⟩).size + (stB kk).size ≤ 100000 := by omega
    have hs3 : (idB p q ++ ⟨#[32]⟩ ++ stB kk).size + (numsB [bu, it, qt, co]).size ≤ 100000 := by rw [ByteArray.size_append]; omega
    have HRV : Hid (RV = idB p q ++ ⟨#[32]⟩ ++ stB kk ++ numsB [bu, it, qt, co]) := Lib.hid (by rw [hRV]; unfold ordB wordO; rw [if_pos hkk, show st.toNat = kk by omega])
    have hk0 : (0 : Int) ≤ kk := by omega
    have hk1 : (kk : Int) < 6 := by omega
    have hk2 : (0 : Int) < kk := by omega
    have hk3 : (1 : Int) ≤ kk := by omega
    have hk4 : (kk : Int) ≤ 5 := by omega
    clear hRV hkk sb
    subst hkn
    have HB0 := Lib.hid ((Below.refl w.heap.size w).alloc (Nat.le_refl _) (.cells #[.int .i64 p, .int .i64 q, .int .i64 bu, .int .i64 it, .int .i64 qt, .int .i64 co, .int .i64 (kk : Int)] 27))
    have A0 := Lib.hid (Blk.new w #[.int .i64 p, .int .i64 q, .int .i64 bu, .int .i64 it, .int .i64 qt, .int .i64 co, .int .i64 (kk : Int)] 27)
    have HB := HB0
    have A := A0
    have CI0 := Lib.hid (fun w' (hb : Below w.heap.size w w') => show Calls Tryd.prog 19 #[.agg (ints [p, q]).toArray] w' _ from idtext_any p q w' hfp hfq (hT.keep hb))
    obtain ⟨HV, hHV⟩ : ∃ HV : ByteArray, HV = idB p q ++ ⟨#[32]⟩ ++ stB kk := ⟨_, rfl⟩
    have hhd : HV.size ≤ 1000 := by rw [hHV, ByteArray.size_append]; omega
    have RW0 := Lib.hid (fun a' c' w' (h : Sl w' a' 4 1 (ints [bu, it, qt, co])) (hb : Below w.heap.size w w') => row_any HV a' 4 c' [bu, it, qt, co] w' h (by decide) hhd hf4 (hT.keep hb))
    rw [hHV] at RW0
    have WK : Hid (∀ w', Below w.heap.size w w' → ∀ i, i < 6 → w'.cell? ⟨0, i, none⟩ = some (.string (stB i))) := Lib.hid (fun w' hb i hi => (hS.keep hb).2 i hi)
    clear hhd hHV
    clear hT hS hf4 hfp hfq HB0 A0
    go_enter Tryd.func11, Tryd.ntmps11
    go_upto_region 1 with fail
    generalize hg0 : w.heap.size = g0 at *
    have HG0 := Lib.hid hg0
    generalize (w.alloc (.cells #[.int .i64 p, .int .i64 q, .int .i64 bu, .int .i64 it, .int .i64 qt, .int .i64 co, .int .i64 (kk : Int)] 27)) = w1 at *
    have ck := A.out.cell 6
    have cw := WK.out w1 HB.out kk (by have := HKK.out; omega)
    clear hg0
    go_upto_region 4 with fail
    clear ck cw WK
    generalize stB kk = WB at *
    have CI := Lib.hid (fun w' (hb : Below w1.heap.size w1 w') => CI0.out w' (HB.out.trans (hb.mono (HG0.out ▸ HB.out.size))))
    have RW := Lib.hid (fun a' c' w' h (hb : Below w1.heap.size w1 w') => RW0.out a' c' w' h (HB.out.trans (hb.mono (HG0.out ▸ HB.out.size))))
    refine held_begin (fun w' => Below w1.heap.size w1 w') 17 [false, false, false, false, false, false, false, false, false, false, false, false, false, false, false, false, false] (by kernel_rfl) rfl (by rfl) ?_
    have hHeld : Below w1.heap.size w1 w1.drew := (Below.refl _ _).drew
    refine held_take (v := ?_) 0 16 [true, false, false, false, false, false, false, false, false, false, false, false, false, false, false, false, false] rfl (by rfl) (by rfl) (by kernel_rfl) (by kernel_rfl) (by kernel_rfl) (by rfl) (fun _ _ _ h => h) ?_ hHeld ?_
    rotate_left
    · intro w hSw; go_simp <;> with_reducible rfl
    simp only [Act.put, List.setIfInBounds_toArray, List.set_cons_zero, List.set_cons_succ]
    refine held_take (v := .agg (ints [p, q]).toArray) 1 17 [true, true, false, false, false, false, false, false, false, false, false, false, false, false, false, false, false] rfl (by rfl) (by rfl) (by kernel_rfl) (by kernel_rfl) (by kernel_rfl) (by rfl) (fun _ _ _ h => h) (fun w' h => run_op_load rfl rfl ((A.out.keep h A.out.lt).range 0 (ints [p, q]) rfl) Tryd.underlying23 rfl id_row.2) hHeld ?_
    simp only [Act.put, List.setIfInBounds_toArray, List.set_cons_zero, List.set_cons_succ]
    refine held_take (v := ?_) 4 20 [true, true, false, false, true, false, false, false, false, false, false, false, false, false, false, false, false] rfl (by rfl) (by rfl) (by kernel_rfl) (by kernel_rfl) (by kernel_rfl) (by rfl) (fun _ _ _ h => h) ?_ hHeld ?_
    rotate_left
    · intro w hSw; go_simp <;> with_reducible rfl
    simp only [Act.put, List.setIfInBounds_toArray, List.set_cons_zero, List.set_cons_succ]
    refine held_take (v := ?_) 6 22 [true, true, false, false, true, false, true, false, false, false, false, false, false, false, false, false, false] rfl (by rfl) (by rfl) (by kernel_rfl) (by kernel_rfl) (by kernel_rfl) (by rfl) (fun _ _ _ h => h) ?_ hHeld ?_
    rotate_left
    · intro w hSw; go_simp <;> with_reducible rfl
    simp only [Act.put, List.setIfInBounds_toArray, List.set_cons_zero, List.set_cons_succ]
    refine held_take (v := .int .i64 bu) 7 23 [true, true, false, false, true, false, true, true, false, false, false, false, false, false, false, false, false] rfl (by rfl) (by rfl) (by kernel_rfl) (by kernel_rfl) (by kernel_rfl) (by rfl) (fun _ _ _ h => h) (fun w' h => run_op_one rfl rfl Tryd.underlying3 rfl ((A.out.keep h A.out.lt).cell 2)) hHeld ?_
    simp only [Act.put, List.setIfInBounds_toArray, List.set_cons_zero, List.set_cons_succ]
    refine held_take (v := ?_) 8 24 [true, true, false, false, true, false, true, true, true, false, false, false, false, false, false, false, false] rfl (by rfl) (by rfl) (by kernel_rfl) (by kernel_rfl) (by kernel_rfl) (by rfl) (fun _ _ _ h => h) ?_ hHeld ?_
    rotate_left
    · intro w hSw; go_simp <;> with_reducible rfl
    simp only [Act.put, List.setIfInBounds_toArray, List.set_cons_zero, List.set_cons_succ]
    refine held_take (v := .int .i64 it) 9 25 [true, true, false, false, true, false, true, true, true, true, false, false, false, false, false, false, false] rfl (by rfl) (by rfl) (by kernel_rfl) (by kernel_rfl) (by kernel_rfl) (by rfl) (fun _ _ _ h => h) (fun w' h => run_op_one rfl rfl Tryd.underlying3 rfl ((A.out.keep h A.out.lt).cell 3)) hHeld ?_
    simp only [Act.put, List.setIfInBounds_toArray, List.set_cons_zero, List.set_cons_succ]
    refine held_take (v := ?_) 10 26 [true, true, false, false, true, false, true, true, true, true, true, false, false, false, false, false, false] rfl (by rfl) (by rfl) (by kernel_rfl) (by kernel_rfl) (by kernel_rfl) (by rfl) (fun _ _ _ h => h) ?_ hHeld ?_
    rotate_left
    · intro w hSw; go_simp <;> with_reducible rfl
    simp only [Act.put, List.setIfInBounds_toArray, List.set_cons_zero, List.set_cons_succ]
    refine held_take (v := .int .i64 qt) 11 27 [true, true, false, false, true, false, true, true, true, true, true, true, false, false, false, false, false] rfl (by rfl) (by rfl) (by kernel_rfl) (by kernel_rfl) (by kernel_rfl) (by rfl) (fun _ _ _ h => h) (fun w' h => run_op_one rfl rfl Tryd.underlying2 rfl ((A.out.keep h A.out.lt).cell 4)) hHeld ?_
    simp only [Act.put, List.setIfInBounds_toArray, List.set_cons_zero, List.set_cons_succ]
    refine held_take (v := ?_) 12 28 [true, true, false, false, true, false, true, true, true, true, true, true, true, false, false, false, false] rfl (by rfl) (by rfl) (by kernel_rfl) (by kernel_rfl) (by kernel_rfl) (by rfl) (fun _ _ _ h => h) ?_ hHeld ?_
    rotate_left
    · intro w hSw; go_simp <;> with_reducible rfl
    simp only [Act.put, List.setIfInBounds_toArray, List.set_cons_zero, List.set_cons_succ]
    refine held_take (v := .int .i64 co) 13 29 [true, true, false, false, true, false, true, true, true, true, true, true, true, true, false, false, false] rfl (by rfl) (by rfl) (by kernel_rfl) (by kernel_rfl) (by kernel_rfl) (by rfl) (fun _ _ _ h => h) (fun w' h => run_op_one rfl rfl Tryd.underlying2 rfl ((A.out.keep h A.out.lt).cell 5)) hHeld ?_
    simp only [Act.put, List.setIfInBounds_toArray, List.set_cons_zero, List.set_cons_succ]
    refine held_two 2 14 (by kernel_rfl) ?_ ?_
    · refine op_call 18 [true, true, true, false, true, false, true, true, true, true, true, true, true, true, false, false, false] rfl (by rfl) (by rfl) (by rfl) (by go_simp) ((CI.out _ hHeld).mono ?_)
      rintro e w4 ⟨rfl, hb4⟩
      refine ⟨_, rfl, hHeld.trans (hb4.mono hHeld.size), fun hHeld => ?_⟩
      simp only [Act.put, List.setIfInBounds_toArray, List.set_cons_zero, List.set_cons_succ]
      have hal := (Below.refl w4.heap.size w4).alloc (Nat.le_refl _) (.cells #[.int .i64 bu, .int .i64 it, .int .i64 qt, .int .i64 co] 2)
      have hsl := sl_lit w4 2 [bu, it, qt, co] (by simp)
      refine held_take (v := .string (idB p q ++ ⟨#[32]⟩)) 3 19 [true, true, true, true, true, false, true, true, true, true, true, true, true, true, false, false, false] rfl (by rfl) (by rfl) (by kernel_rfl) (by kernel_rfl) (by kernel_rfl) (by rfl) (fun _ _ _ h => h) (fun w' h => run_op_adds rfl rfl rfl hs1) hHeld ?_
      simp only [Act.put, List.setIfInBounds_toArray, List.set_cons_zero, List.set_cons_succ]
      refine held_take (v := .string (idB p q ++ ⟨#[32]⟩ ++ WB)) 5 21 [true, true, true, true, true, true, true, true, true, true, true, true, true, true, false, false, false] rfl (by rfl) (by rfl) (by kernel_rfl) (by kernel_rfl) (by kernel_rfl) (by rfl) (fun _ _ _ h => h) (fun w' h => run_op_adds rfl rfl rfl hs2) hHeld ?_
      simp only [Act.put, List.setIfInBounds_toArray, List.set_cons_zero, List.set_cons_succ]
      refine held_one 14 (by kernel_rfl) ?_
      refine op_value (v := .slice (some ⟨w4.heap.size, 0, none⟩) 4 4) 30 [true, true, true, true, true, true, true, true, true, true, true, true, true, true, true, false, false] rfl (by rfl) (by rfl) (by rfl) (by go_simp <;> rfl) (hHeld.trans (hal.mono hHeld.size)) fun hHeld => ?_
      simp only [Act.put, List.setIfInBounds_toArray, List.set_cons_zero, List.set_cons_succ]
      refine held_call 15 31 [true, true, true, true, true, true, true, true, true, true, true, true, true, true, true, true, false] (by kernel_rfl) rfl (by rfl) (by rfl) (by rfl) (by go_simp) ((RW.out _ 4 _ hsl hHeld).mono ?_)
      rintro e w9 ⟨rfl, hb9⟩
      refine ⟨_, rfl, hHeld.trans (hb9.mono hHeld.size), fun hHeld => ?_⟩
      simp only [Act.put, List.setIfInBounds_toArray, List.set_cons_zero, List.set_cons_succ]
      refine held_take (v := ?_) 16 2 [true, true, true, true, true, true, true, true, true, true, true, true, true, true, true, true, true] rfl (by rfl) (by rfl) (by kernel_rfl) (by kernel_rfl) (by kernel_rfl) (by rfl) (fun _ _ _ h => h) ?_ hHeld ?_
      rotate_left
      · intro w hSw; go_simp <;> with_reducible rfl
      simp only [Act.put, List.setIfInBounds_toArray, List.set_cons_zero, List.set_cons_succ]
      refine held_done (by kernel_rfl) ?_
      have HB9 := HB.out.trans (hHeld.mono (HG0.out ▸ HB.out.size))
      go_wp2_with fail
      go_ret
      have hge := HG0.out
      subst hge
      exact ⟨by rw [HRV.out]; rfl, HB9⟩
    · generalize w1.drew = wD at *
      have hal := (Below.refl wD.heap.size wD).alloc (Nat.le_refl _) (.cells #[.int .i64 bu, .int .i64 it, .int .i64 qt, .int .i64 co] 2)
      have hsl := sl_lit wD 2 [bu, it, qt, co] (by simp)
      refine op_value (v := .slice (some ⟨wD.heap.size, 0, none⟩) 4 4) 30 [true, true, false, false, true, false, true, true, true, true, true, true, true, true, true, false, false] rfl (by rfl) (by rfl) (by rfl) (by go_simp <;> rfl) (hHeld.trans (hal.mono hHeld.size)) fun hHeld => ?_
      simp only [Act.put, List.setIfInBounds_toArray, List.set_cons_zero, List.set_cons_succ]
      refine held_call 2 18 [true, true, true, false, true, false, true, true, true, true, true, true, true, true, true, false, false] (by kernel_rfl) rfl (by rfl) (by rfl) (by rfl) (by go_simp) ((CI.out _ hHeld).mono ?_)
      rintro e w4 ⟨rfl, hb4⟩
      refine ⟨_, rfl, hHeld.trans (hb4.mono hHeld.size), fun hHeld => ?_⟩
      simp only [Act.put, List.setIfInBounds_toArray, List.set_cons_zero, List.set_cons_succ]
      have hsl4 := hsl.keep hb4
      refine held_take (v := .string (idB p q ++ ⟨#[32]⟩)) 3 19 [true, true, true, true, true, false, true, true, true, true, true, true, true, true, true, false, false] rfl (by rfl) (by rfl) (by kernel_rfl) (by kernel_rfl) (by kernel_rfl) (by rfl) (fun _ _ _ h => h) (fun w' h => run_op_adds rfl rfl rfl hs1) hHeld ?_
      simp only [Act.put, List.setIfInBounds_toArray, List.set_cons_zero, List.set_cons_succ]
      refine held_take (v := .string (idB p q ++ ⟨#[32]⟩ ++ WB)) 5 21 [true, true, true, true, true, true, true, true, true, true, true, true, true, true, true, false, false] rfl (by rfl) (by rfl) (by kernel_rfl) (by kernel_rfl) (by kernel_rfl) (by rfl) (fun _ _ _ h => h) (fun w' h => run_op_adds rfl rfl rfl hs2) hHeld ?_
      simp only [Act.put, List.setIfInBounds_toArray, List.set_cons_zero, List.set_cons_succ]
      refine held_call 15 31 [true, true, true, true, true, true, true, true, true, true, true, true, true, true, true, true, false] (by kernel_rfl) rfl (by rfl) (by rfl) (by rfl) (by go_simp) ((RW.out _ 4 _ hsl4 hHeld).mono ?_)
      rintro e w9 ⟨rfl, hb9⟩
      refine ⟨_, rfl, hHeld.trans (hb9.mono hHeld.size), fun hHeld => ?_⟩
      simp only [Act.put, List.setIfInBounds_toArray, List.set_cons_zero, List.set_cons_succ]
      refine held_take (v := ?_) 16 2 [true, true, true, true, true, true, true, true, true, true, true, true, true, true, true, true, true] rfl (by rfl) (by rfl) (by kernel_rfl) (by kernel_rfl) (by kernel_rfl) (by rfl) (fun _ _ _ h => h) ?_ hHeld ?_
      rotate_left
      · intro w hSw; go_simp <;> with_reducible rfl
      simp only [Act.put, List.setIfInBounds_toArray, List.set_cons_zero, List.set_cons_succ]
      refine held_done (by kernel_rfl) ?_
      have HB9 := HB.out.trans (hHeld.mono (HG0.out ▸ HB.out.size))
      go_wp2_with fail
      go_ret
      have hge := HG0.out
      subst hge
      exact ⟨by rw [HRV.out]; rfl, HB9⟩

  · have s5 : (⟨#[63]⟩ : ByteArray).size = 1 := rfl
    have hs2 : (idB p q ++ ⟨#[32]⟩).size + (⟨#[63]⟩ : ByteArray).size ≤ 100000 := by omega
    have hs3 : (idB p q ++ ⟨#[32]⟩ ++ ⟨#[63]⟩).size + (numsB [bu, it, qt, co]).size ≤ 100000 := by rw [ByteArray.size_append]; omega
    have HRV : Hid (RV = idB p q ++ ⟨#[32]⟩ ++ ⟨#[63]⟩ ++ numsB [bu, it, qt, co]) := Lib.hid (by rw [hRV]; unfold ordB wordO; rw [if_neg hkk])
    by_cases hk : 0 < st
    · have hk1 : ¬ st < 6 := by omega
      have hk3 : 1 ≤ st := by omega
      have hk4 : ¬ st ≤ 5 := by omega
      clear hRV hkk sb
      have HB0 := Lib.hid ((Below.refl w.heap.size w).alloc (Nat.le_refl _) (.cells #[.int .i64 p, .int .i64 q, .int .i64 bu, .int .i64 it, .int .i64 qt, .int .i64 co, .int .i64 st] 27))
      have A0 := Lib.hid (Blk.new w #[.int .i64 p, .int .i64 q, .int .i64 bu, .int .i64 it, .int .i64 qt, .int .i64 co, .int .i64 st] 27)
      have HB := HB0
      have A := A0
      have CI0 := Lib.hid (fun w' (hb : Below w.heap.size w w') => show Calls Tryd.prog 19 #[.agg (ints [p, q]).toArray] w' _ from idtext_any p q w' hfp hfq (hT.keep hb))
      obtain ⟨HV, hHV⟩ : ∃ HV : ByteArray, HV = idB p q ++ ⟨#[32]⟩ ++ ⟨#[63]⟩ := ⟨_, rfl⟩
      have hhd : HV.size ≤ 1000 := by rw [hHV, ByteArray.size_append]; omega
      have RW0 := Lib.hid (fun a' c' w' (h : Sl w' a' 4 1 (ints [bu, it, qt, co])) (hb : Below w.heap.size w w') => row_any HV a' 4 c' [bu, it, qt, co] w' h (by decide) hhd hf4 (hT.keep hb))
      rw [hHV] at RW0
      have WK : Hid (∀ w', Below w.heap.size w w' → ∀ i, i < 6 → w'.cell? ⟨0, i, none⟩ = some (.string (stB i))) := Lib.hid (fun w' hb i hi => (hS.keep hb).2 i hi)
      clear hhd hHV
      clear hT hS hf4 hfp hfq HB0 A0
      go_enter Tryd.func11, Tryd.ntmps11
      go_upto_region 1 with fail
      generalize hg0 : w.heap.size = g0 at *
      have HG0 := Lib.hid hg0
      generalize (w.alloc (.cells #[.int .i64 p, .int .i64 q, .int .i64 bu, .int .i64 it, .int .i64 qt, .int .i64 co, .int .i64 st] 27)) = w1 at *
      have ck := A.out.cell 6
      skip
      clear hg0
      go_upto_region 4 with fail
      clear ck WK
      have CI := Lib.hid (fun w' (hb : Below w1.heap.size w1 w') => CI0.out w' (HB.out.trans (hb.mono (HG0.out ▸ HB.out.size))))
      have RW := Lib.hid (fun a' c' w' h (hb : Below w1.heap.size w1 w') => RW0.out a' c' w' h (HB.out.trans (hb.mono (HG0.out ▸ HB.out.size))))
      refine held_begin (fun w' => Below w1.heap.size w1 w') 17 [false, false, false, false, false, false, false, false, false, false, false, false, false, false, false, false, false] (by kernel_rfl) rfl (by rfl) ?_
      have hHeld : Below w1.heap.size w1 w1.drew := (Below.refl _ _).drew
      refine held_take (v := ?_) 0 16 [true, false, false, false, false, false, false, false, false, false, false, false, false, false, false, false, false] rfl (by rfl) (by rfl) (by kernel_rfl) (by kernel_rfl) (by kernel_rfl) (by rfl) (fun _ _ _ h => h) ?_ hHeld ?_
      rotate_left
      · intro w hSw; go_simp <;> with_reducible rfl
      simp only [Act.put, List.setIfInBounds_toArray, List.set_cons_zero, List.set_cons_succ]
      refine held_take (v := .agg (ints [p, q]).toArray) 1 17 [true, true, false, false, false, false, false, false, false, false, false, false, false, false, false, false, false] rfl (by rfl) (by rfl) (by kernel_rfl) (by kernel_rfl) (by kernel_rfl) (by rfl) (fun _ _ _ h => h) (fun w' h => run_op_load rfl rfl ((A.out.keep h A.out.lt).range 0 (ints [p, q]) rfl) Tryd.underlying23 rfl id_row.2) hHeld ?_
      simp only [Act.put, List.setIfInBounds_toArray, List.set_cons_zero, List.set_cons_succ]
      refine held_take (v := ?_) 4 20 [true, true, false, false, true, false, false, false, false, false, false, false, false, false, false, false, false] rfl (by rfl) (by rfl) (by kernel_rfl) (by kernel_rfl) (by kernel_rfl) (by rfl) (fun _ _ _ h => h) ?_ hHeld ?_
      rotate_left
      · intro w hSw; go_simp <;> with_reducible rfl
      simp only [Act.put, List.setIfInBounds_toArray, List.set_cons_zero, List.set_cons_succ]
      refine held_take (v := ?_) 6 22 [true, true, false, false, true, false, true, false, false, false, false, false, false, false, false, false, false] rfl (by rfl) (by rfl) (by kernel_rfl) (by kernel_rfl) (by kernel_rfl) (by rfl) (fun _ _ _ h => h) ?_ hHeld ?_
      rotate_left
      · intro w hSw; go_simp <;> with_reducible rfl
      simp only [Act.put, List.setIfInBounds_toArray, List.set_cons_zero, List.set_cons_succ]
      refine held_take (v := .int .i64 bu) 7 23 [true, true, false, false, true, false, true, true, false, false, false, false, false, false, false, false, false] rfl (by rfl) (by rfl) (by kernel_rfl) (by kernel_rfl) (by kernel_rfl) (by rfl) (fun _ _ _ h => h) (fun w' h => run_op_one rfl rfl Tryd.underlying3 rfl ((A.out.keep h A.out.lt).cell 2)) hHeld ?_
      simp only [Act.put, List.setIfInBounds_toArray, List.set_cons_zero, List.set_cons_succ]
      refine held_take (v := ?_) 8 24 [true, true, false, false, true, false, true, true, true, false, false, false, false, false, false, false, false] rfl (by rfl) (by rfl) (by kernel_rfl) (by kernel_rfl) (by kernel_rfl) (by rfl) (fun _ _ _ h => h) ?_ hHeld ?_
      rotate_left
      · intro w hSw; go_simp <;> with_reducible rfl
      simp only [Act.put, List.setIfInBounds_toArray, List.set_cons_zero, List.set_cons_succ]
      refine held_take (v := .int .i64 it) 9 25 [true, true, false, false, true, false, true, true, true, true, false, false, false, false, false, false, false] rfl (by rfl) (by rfl) (by kernel_rfl) (by kernel_rfl) (by kernel_rfl) (by rfl) (fun _ _ _ h => h) (fun w' h => run_op_one rfl rfl Tryd.underlying3 rfl ((A.out.keep h A.out.lt).cell 3)) hHeld ?_
      simp only [Act.put, List.setIfInBounds_toArray, List.set_cons_zero, List.set_cons_succ]
      refine held_take (v := ?_) 10 26 [true, true, false, false, true, false, true, true, true, true, true, false, false, false, false, false, false] rfl (by rfl) (by rfl) (by kernel_rfl) (by kernel_rfl) (by kernel_rfl) (by rfl) (fun _ _ _ h => h) ?_ hHeld ?_
      rotate_left
      · intro w hSw; go_simp <;> with_reducible rfl
      simp only [Act.put, List.setIfInBounds_toArray, List.set_cons_zero, List.set_cons_succ]
      refine held_take (v := .int .i64 qt) 11 27 [true, true, false, false, true, false, true, true, true, true, true, true, false, false, false, false, false] rfl (by rfl) (by rfl) (by kernel_rfl) (by kernel_rfl) (by kernel_rfl) (by rfl) (fun _ _ _ h => h) (fun w' h => run_op_one rfl rfl Tryd.underlying2 rfl ((A.out.keep h A.out.lt).cell 4)) hHeld ?_
      simp only [Act.put, List.setIfInBounds_toArray, List.set_cons_zero, List.set_cons_succ]
      refine held_take (v := ?_) 12 28 [true, true, false, false, true, false, true, true, true, true, true, true, true, false, false, false, false] rfl (by rfl) (by rfl) (by kernel_rfl) (by kernel_rfl) (by kernel_rfl) (by rfl) (fun _ _ _ h => h) ?_ hHeld ?_
      rotate_left
      · intro w hSw; go_simp <;> with_reducible rfl
      simp only [Act.put, List.setIfInBounds_toArray, List.set_cons_zero, List.set_cons_succ]
      refine held_take (v := .int .i64 co) 13 29 [true, true, false, false, true, false, true, true, true, true, true, true, true, true, false, false, false] rfl (by rfl) (by rfl) (by kernel_rfl) (by kernel_rfl) (by kernel_rfl) (by rfl) (fun _ _ _ h => h) (fun w' h => run_op_one rfl rfl Tryd.underlying2 rfl ((A.out.keep h A.out.lt).cell 5)) hHeld ?_
      simp only [Act.put, List.setIfInBounds_toArray, List.set_cons_zero, List.set_cons_succ]
      refine held_two 2 14 (by kernel_rfl) ?_ ?_
      · refine op_call 18 [true, true, true, false, true, false, true, true, true, true, true, true, true, true, false, false, false] rfl (by rfl) (by rfl) (by rfl) (by go_simp) ((CI.out _ hHeld).mono ?_)
        rintro e w4 ⟨rfl, hb4⟩
        refine ⟨_, rfl, hHeld.trans (hb4.mono hHeld.size), fun hHeld => ?_⟩
        simp only [Act.put, List.setIfInBounds_toArray, List.set_cons_zero, List.set_cons_succ]
        have hal := (Below.refl w4.heap.size w4).alloc (Nat.le_refl _) (.cells #[.int .i64 bu, .int .i64 it, .int .i64 qt, .int .i64 co] 2)
        have hsl := sl_lit w4 2 [bu, it, qt, co] (by simp)
        refine held_take (v := .string (idB p q ++ ⟨#[32]⟩)) 3 19 [true, true, true, true, true, false, true, true, true, true, true, true, true, true, false, false, false] rfl (by rfl) (by rfl) (by kernel_rfl) (by kernel_rfl) (by kernel_rfl) (by rfl) (fun _ _ _ h => h) (fun w' h => run_op_adds rfl rfl rfl hs1) hHeld ?_
        simp only [Act.put, List.setIfInBounds_toArray, List.set_cons_zero, List.set_cons_succ]
        refine held_take (v := .string (idB p q ++ ⟨#[32]⟩ ++ ⟨#[63]⟩)) 5 21 [true, true, true, true, true, true, true, true, true, true, true, true, true, true, false, false, false] rfl (by rfl) (by rfl) (by kernel_rfl) (by kernel_rfl) (by kernel_rfl) (by rfl) (fun _ _ _ h => h) (fun w' h => run_op_adds rfl rfl rfl hs2) hHeld ?_
        simp only [Act.put, List.setIfInBounds_toArray, List.set_cons_zero, List.set_cons_succ]
        refine held_one 14 (by kernel_rfl) ?_
        refine op_value (v := .slice (some ⟨w4.heap.size, 0, none⟩) 4 4) 30 [true, true, true, true, true, true, true, true, true, true, true, true, true, true, true, false, false] rfl (by rfl) (by rfl) (by rfl) (by go_simp <;> rfl) (hHeld.trans (hal.mono hHeld.size)) fun hHeld => ?_
        simp only [Act.put, List.setIfInBounds_toArray, List.set_cons_zero, List.set_cons_succ]
        refine held_call 15 31 [true, true, true, true, true, true, true, true, true, true, true, true, true, true, true, true, false] (by kernel_rfl) rfl (by rfl) (by rfl) (by rfl) (by go_simp) ((RW.out _ 4 _ hsl hHeld).mono ?_)
        rintro e w9 ⟨rfl, hb9⟩
        refine ⟨_, rfl, hHeld.trans (hb9.mono hHeld.size), fun hHeld => ?_⟩
        simp only [Act.put, List.setIfInBounds_toArray, List.set_cons_zero, List.set_cons_succ]
        refine held_take (v := ?_) 16 2 [true, true, true, true, true, true, true, true, true, true, true, true, true, true, true, true, true] rfl (by rfl) (by rfl) (by kernel_rfl) (by kernel_rfl) (by kernel_rfl) (by rfl) (fun _ _ _ h => h) ?_ hHeld ?_
        rotate_left
        · intro w hSw; go_simp <;> with_reducible rfl
        simp only [Act.put, List.setIfInBounds_toArray, List.set_cons_zero, List.set_cons_succ]
        refine held_done (by kernel_rfl) ?_
        have HB9 := HB.out.trans (hHeld.mono (HG0.out ▸ HB.out.size))
        go_wp2_with fail
        go_ret
        have hge := HG0.out
        subst hge
        exact ⟨by rw [HRV.out]; rfl, HB9⟩
      · generalize w1.drew = wD at *
        have hal := (Below.refl wD.heap.size wD).alloc (Nat.le_refl _) (.cells #[.int .i64 bu, .int .i64 it, .int .i64 qt, .int .i64 co] 2)
        have hsl := sl_lit wD 2 [bu, it, qt, co] (by simp)
        refine op_value (v := .slice (some ⟨wD.heap.size, 0, none⟩) 4 4) 30 [true, true, false, false, true, false, true, true, true, true, true, true, true, true, true, false, false] rfl (by rfl) (by rfl) (by rfl) (by go_simp <;> rfl) (hHeld.trans (hal.mono hHeld.size)) fun hHeld => ?_
        simp only [Act.put, List.setIfInBounds_toArray, List.set_cons_zero, List.set_cons_succ]
        refine held_call 2 18 [true, true, true, false, true, false, true, true, true, true, true, true, true, true, true, false, false] (by kernel_rfl) rfl (by rfl) (by rfl) (by rfl) (by go_simp) ((CI.out _ hHeld).mono ?_)
        rintro e w4 ⟨rfl, hb4⟩
        refine ⟨_, rfl, hHeld.trans (hb4.mono hHeld.size), fun hHeld => ?_⟩
        simp only [Act.put, List.setIfInBounds_toArray, List.set_cons_zero, List.set_cons_succ]
        have hsl4 := hsl.keep hb4
        refine held_take (v := .string (idB p q ++ ⟨#[32]⟩)) 3 19 [true, true, true, true, true, false, true, true, true, true, true, true, true, true, true, false, false] rfl (by rfl) (by rfl) (by kernel_rfl) (by kernel_rfl) (by kernel_rfl) (by rfl) (fun _ _ _ h => h) (fun w' h => run_op_adds rfl rfl rfl hs1) hHeld ?_
        simp only [Act.put, List.setIfInBounds_toArray, List.set_cons_zero, List.set_cons_succ]
        refine held_take (v := .string (idB p q ++ ⟨#[32]⟩ ++ ⟨#[63]⟩)) 5 21 [true, true, true, true, true, true, true, true, true, true, true, true, true, true, true, false, false] rfl (by rfl) (by rfl) (by kernel_rfl) (by kernel_rfl) (by kernel_rfl) (by rfl) (fun _ _ _ h => h) (fun w' h => run_op_adds rfl rfl rfl hs2) hHeld ?_
        simp only [Act.put, List.setIfInBounds_toArray, List.set_cons_zero, List.set_cons_succ]
        refine held_call 15 31 [true, true, true, true, true, true, true, true, true, true, true, true, true, true, true, true, false] (by kernel_rfl) rfl (by rfl) (by rfl) (by rfl) (by go_simp) ((RW.out _ 4 _ hsl4 hHeld).mono ?_)
        rintro e w9 ⟨rfl, hb9⟩
        refine ⟨_, rfl, hHeld.trans (hb9.mono hHeld.size), fun hHeld => ?_⟩
        simp only [Act.put, List.setIfInBounds_toArray, List.set_cons_zero, List.set_cons_succ]
        refine held_take (v := ?_) 16 2 [true, true, true, true, true, true, true, true, true, true, true, true, true, true, true, true, true] rfl (by rfl) (by rfl) (by kernel_rfl) (by kernel_rfl) (by kernel_rfl) (by rfl) (fun _ _ _ h => h) ?_ hHeld ?_
        rotate_left
        · intro w hSw; go_simp <;> with_reducible rfl
        simp only [Act.put, List.setIfInBounds_toArray, List.set_cons_zero, List.set_cons_succ]
        refine held_done (by kernel_rfl) ?_
        have HB9 := HB.out.trans (hHeld.mono (HG0.out ▸ HB.out.size))
        go_wp2_with fail
        go_ret
        have hge := HG0.out
        subst hge
        exact ⟨by rw [HRV.out]; rfl, HB9⟩

    · have hk3 : ¬ 1 ≤ st := by omega
      clear hRV hkk sb
      have HB0 := Lib.hid ((Below.refl w.heap.size w).alloc (Nat.le_refl _) (.cells #[.int .i64 p, .int .i64 q, .int .i64 bu, .int .i64 it, .int .i64 qt, .int .i64 co, .int .i64 st] 27))
      have A0 := Lib.hid (Blk.new w #[.int .i64 p, .int .i64 q, .int .i64 bu, .int .i64 it, .int .i64 qt, .int .i64 co, .int .i64 st] 27)
      have HB := HB0
      have A := A0
      have CI0 := Lib.hid (fun w' (hb : Below w.heap.size w w') => show Calls Tryd.prog 19 #[.agg (ints [p, q]).toArray] w' _ from idtext_any p q w' hfp hfq (hT.keep hb))
      obtain ⟨HV, hHV⟩ : ∃ HV : ByteArray, HV = idB p q ++ ⟨#[32]⟩ ++ ⟨#[63]⟩ := ⟨_, rfl⟩
      have hhd : HV.size ≤ 1000 := by rw [hHV, ByteArray.size_append]; omega
      have RW0 := Lib.hid (fun a' c' w' (h : Sl w' a' 4 1 (ints [bu, it, qt, co])) (hb : Below w.heap.size w w') => row_any HV a' 4 c' [bu, it, qt, co] w' h (by decide) hhd hf4 (hT.keep hb))
      rw [hHV] at RW0
      have WK : Hid (∀ w', Below w.heap.size w w' → ∀ i, i < 6 → w'.cell? ⟨0, i, none⟩ = some (.string (stB i))) := Lib.hid (fun w' hb i hi => (hS.keep hb).2 i hi)
      clear hhd hHV
      clear hT hS hf4 hfp hfq HB0 A0
      go_enter Tryd.func11, Tryd.ntmps11
      go_upto_region 1 with fail
      generalize hg0 : w.heap.size = g0 at *
      have HG0 := Lib.hid hg0
      generalize (w.alloc (.cells #[.int .i64 p, .int .i64 q, .int .i64 bu, .int .i64 it, .int .i64 qt, .int .i64 co, .int .i64 st] 27)) = w1 at *
      have ck := A.out.cell 6
      skip
      clear hg0
      go_upto_region 4 with fail
      clear ck WK
      have CI := Lib.hid (fun w' (hb : Below w1.heap.size w1 w') => CI0.out w' (HB.out.trans (hb.mono (HG0.out ▸ HB.out.size))))
      have RW := Lib.hid (fun a' c' w' h (hb : Below w1.heap.size w1 w') => RW0.out a' c' w' h (HB.out.trans (hb.mono (HG0.out ▸ HB.out.size))))
      refine held_begin (fun w' => Below w1.heap.size w1 w') 17 [false, false, false, false, false, false, false, false, false, false, false, false, false, false, false, false, false] (by kernel_rfl) rfl (by rfl) ?_
      have hHeld : Below w1.heap.size w1 w1.drew := (Below.refl _ _).drew
      refine held_take (v := ?_) 0 16 [true, false, false, false, false, false, false, false, false, false, false, false, false, false, false, false, false] rfl (by rfl) (by rfl) (by kernel_rfl) (by kernel_rfl) (by kernel_rfl) (by rfl) (fun _ _ _ h => h) ?_ hHeld ?_
      rotate_left
      · intro w hSw; go_simp <;> with_reducible rfl
      simp only [Act.put, List.setIfInBounds_toArray, List.set_cons_zero, List.set_cons_succ]
      refine held_take (v := .agg (ints [p, q]).toArray) 1 17 [true, true, false, false, false, false, false, false, false, false, false, false, false, false, false, false, false] rfl (by rfl) (by rfl) (by kernel_rfl) (by kernel_rfl) (by kernel_rfl) (by rfl) (fun _ _ _ h => h) (fun w' h => run_op_load rfl rfl ((A.out.keep h A.out.lt).range 0 (ints [p, q]) rfl) Tryd.underlying23 rfl id_row.2) hHeld ?_
      simp only [Act.put, List.setIfInBounds_toArray, List.set_cons_zero, List.set_cons_succ]
      refine held_take (v := ?_) 4 20 [true, true, false, false, true, false, false, false, false, false, false, false, false, false, false, false, false] rfl (by rfl) (by rfl) (by kernel_rfl) (by kernel_rfl) (by kernel_rfl) (by rfl) (fun _ _ _ h => h) ?_ hHeld ?_
      rotate_left
      · intro w hSw; go_simp <;> with_reducible rfl
      simp only [Act.put, List.setIfInBounds_toArray, List.set_cons_zero, List.set_cons_succ]
      refine held_take (v := ?_) 6 22 [true, true, false, false, true, false, true, false, false, false, false, false, false, false, false, false, false] rfl (by rfl) (by rfl) (by kernel_rfl) (by kernel_rfl) (by kernel_rfl) (by rfl) (fun _ _ _ h => h) ?_ hHeld ?_
      rotate_left
      · intro w hSw; go_simp <;> with_reducible rfl
      simp only [Act.put, List.setIfInBounds_toArray, List.set_cons_zero, List.set_cons_succ]
      refine held_take (v := .int .i64 bu) 7 23 [true, true, false, false, true, false, true, true, false, false, false, false, false, false, false, false, false] rfl (by rfl) (by rfl) (by kernel_rfl) (by kernel_rfl) (by kernel_rfl) (by rfl) (fun _ _ _ h => h) (fun w' h => run_op_one rfl rfl Tryd.underlying3 rfl ((A.out.keep h A.out.lt).cell 2)) hHeld ?_
      simp only [Act.put, List.setIfInBounds_toArray, List.set_cons_zero, List.set_cons_succ]
      refine held_take (v := ?_) 8 24 [true, true, false, false, true, false, true, true, true, false, false, false, false, false, false, false, false] rfl (by rfl) (by rfl) (by kernel_rfl) (by kernel_rfl) (by kernel_rfl) (by rfl) (fun _ _ _ h => h) ?_ hHeld ?_
      rotate_left
      · intro w hSw; go_simp <;> with_reducible rfl
      simp only [Act.put, List.setIfInBounds_toArray, List.set_cons_zero, List.set_cons_succ]
      refine held_take (v := .int .i64 it) 9 25 [true, true, false, false, true, false, true, true, true, true, false, false, false, false, false, false, false] rfl (by rfl) (by rfl) (by kernel_rfl) (by kernel_rfl) (by kernel_rfl) (by rfl) (fun _ _ _ h => h) (fun w' h => run_op_one rfl rfl Tryd.underlying3 rfl ((A.out.keep h A.out.lt).cell 3)) hHeld ?_
      simp only [Act.put, List.setIfInBounds_toArray, List.set_cons_zero, List.set_cons_succ]
      refine held_take (v := ?_) 10 26 [true, true, false, false, true, false, true, true, true, true, true, false, false, false, false, false, false] rfl (by rfl) (by rfl) (by kernel_rfl) (by kernel_rfl) (by kernel_rfl) (by rfl) (fun _ _ _ h => h) ?_ hHeld ?_
      rotate_left
      · intro w hSw; go_simp <;> with_reducible rfl
      simp only [Act.put, List.setIfInBounds_toArray, List.set_cons_zero, List.set_cons_succ]
      refine held_take (v := .int .i64 qt) 11 27 [true, true, false, false, true, false, true, true, true, true, true, true, false, false, false, false, false] rfl (by rfl) (by rfl) (by kernel_rfl) (by kernel_rfl) (by kernel_rfl) (by rfl) (fun _ _ _ h => h) (fun w' h => run_op_one rfl rfl Tryd.underlying2 rfl ((A.out.keep h A.out.lt).cell 4)) hHeld ?_
      simp only [Act.put, List.setIfInBounds_toArray, List.set_cons_zero, List.set_cons_succ]
      refine held_take (v := ?_) 12 28 [true, true, false, false, true, false, true, true, true, true, true, true, true, false, false, false, false] rfl (by rfl) (by rfl) (by kernel_rfl) (by kernel_rfl) (by kernel_rfl) (by rfl) (fun _ _ _ h => h) ?_ hHeld ?_
      rotate_left
      · intro w hSw; go_simp <;> with_reducible rfl
      simp only [Act.put, List.setIfInBounds_toArray, List.set_cons_zero, List.set_cons_succ]
      refine held_take (v := .int .i64 co) 13 29 [true, true, false, false, true, false, true, true, true, true, true, true, true, true, false, false, false] rfl (by rfl) (by rfl) (by kernel_rfl) (by kernel_rfl) (by kernel_rfl) (by rfl) (fun _ _ _ h => h) (fun w' h => run_op_one rfl rfl Tryd.underlying2 rfl ((A.out.keep h A.out.lt).cell 5)) hHeld ?_
      simp only [Act.put, List.setIfInBounds_toArray, List.set_cons_zero, List.set_cons_succ]
      refine held_two 2 14 (by kernel_rfl) ?_ ?_
      · refine op_call 18 [true, true, true, false, true, false, true, true, true, true, true, true, true, true, false, false, false] rfl (by rfl) (by rfl) (by rfl) (by go_simp) ((CI.out _ hHeld).mono ?_)
        rintro e w4 ⟨rfl, hb4⟩
        refine ⟨_, rfl, hHeld.trans (hb4.mono hHeld.size), fun hHeld => ?_⟩
        simp only [Act.put, List.setIfInBounds_toArray, List.set_cons_zero, List.set_cons_succ]
        have hal := (Below.refl w4.heap.size w4).alloc (Nat.le_refl _) (.cells #[.int .i64 bu, .int .i64 it, .int .i64 qt, .int .i64 co] 2)
        have hsl := sl_lit w4 2 [bu, it, qt, co] (by simp)
        refine held_take (v := .string (idB p q ++ ⟨#[32]⟩)) 3 19 [true, true, true, true, true, false, true, true, true, true, true, true, true, true, false, false, false] rfl (by rfl) (by rfl) (by kernel_rfl) (by kernel_rfl) (by kernel_rfl) (by rfl) (fun _ _ _ h => h) (fun w' h => run_op_adds rfl rfl rfl hs1) hHeld ?_
        simp only [Act.put, List.setIfInBounds_toArray, List.set_cons_zero, List.set_cons_succ]
        refine held_take (v := .string (idB p q ++ ⟨#[32]⟩ ++ ⟨#[63]⟩)) 5 21 [true, true, true, true, true, true, true, true, true, true, true, true, true, true, false, false, false] rfl (by rfl) (by rfl) (by kernel_rfl) (by kernel_rfl) (by kernel_rfl) (by rfl) (fun _ _ _ h => h) (fun w' h => run_op_adds rfl rfl rfl hs2) hHeld ?_
        simp only [Act.put, List.setIfInBounds_toArray, List.set_cons_zero, List.set_cons_succ]
        refine held_one 14 (by kernel_rfl) ?_
        refine op_value (v := .slice (some ⟨w4.heap.size, 0, none⟩) 4 4) 30 [true, true, true, true, true, true, true, true, true, true, true, true, true, true, true, false, false] rfl (by rfl) (by rfl) (by rfl) (by go_simp <;> rfl) (hHeld.trans (hal.mono hHeld.size)) fun hHeld => ?_
        simp only [Act.put, List.setIfInBounds_toArray, List.set_cons_zero, List.set_cons_succ]
        refine held_call 15 31 [true, true, true, true, true, true, true, true, true, true, true, true, true, true, true, true, false] (by kernel_rfl) rfl (by rfl) (by rfl) (by rfl) (by go_simp) ((RW.out _ 4 _ hsl hHeld).mono ?_)
        rintro e w9 ⟨rfl, hb9⟩
        refine ⟨_, rfl, hHeld.trans (hb9.mono hHeld.size), fun hHeld => ?_⟩
        simp only [Act.put, List.setIfInBounds_toArray, List.set_cons_zero, List.set_cons_succ]
        refine held_take (v := ?_) 16 2 [true, true, true, true, true, true, true, true, true, true, true, true, true, true, true, true, true] rfl (by rfl) (by rfl) (by kernel_rfl) (by kernel_rfl) (by kernel_rfl) (by rfl) (fun _ _ _ h => h) ?_ hHeld ?_
        rotate_left
        · intro w hSw; go_simp <;> with_reducible rfl
        simp only [Act.put, List.setIfInBounds_toArray, List.set_cons_zero, List.set_cons_succ]
        refine held_done (by kernel_rfl) ?_
        have HB9 := HB.out.trans (hHeld.mono (HG0.out ▸ HB.out.size))
        go_wp2_with fail
        go_ret
        have hge := HG0.out
        subst hge
        exact ⟨by rw [HRV.out]; rfl, HB9⟩
      · generalize w1.drew = wD at *
        have hal := (Below.refl wD.heap.size wD).alloc (Nat.le_refl _) (.cells #[.int .i64 bu, .int .i64 it, .int .i64 qt, .int .i64 co] 2)
        have hsl := sl_lit wD 2 [bu, it, qt, co] (by simp)
        refine op_value (v := .slice (some ⟨wD.heap.size, 0, none⟩) 4 4) 30 [true, true, false, false, true, false, true, true, true, true, true, true, true, true, true, false, false] rfl (by rfl) (by rfl) (by rfl) (by go_simp <;> rfl) (hHeld.trans (hal.mono hHeld.size)) fun hHeld => ?_
        simp only [Act.put, List.setIfInBounds_toArray, List.set_cons_zero, List.set_cons_succ]
        refine held_call 2 18 [true, true, true, false, true, false, true, true, true, true, true, true, true, true, true, false, false] (by kernel_rfl) rfl (by rfl) (by rfl) (by rfl) (by go_simp) ((CI.out _ hHeld).mono ?_)
        rintro e w4 ⟨rfl, hb4⟩
        refine ⟨_, rfl, hHeld.trans (hb4.mono hHeld.size), fun hHeld => ?_⟩
        simp only [Act.put, List.setIfInBounds_toArray, List.set_cons_zero, List.set_cons_succ]
        have hsl4 := hsl.keep hb4
        refine held_take (v := .string (idB p q ++ ⟨#[32]⟩)) 3 19 [true, true, true, true, true, false, true, true, true, true, true, true, true, true, true, false, false] rfl (by rfl) (by rfl) (by kernel_rfl) (by kernel_rfl) (by kernel_rfl) (by rfl) (fun _ _ _ h => h) (fun w' h => run_op_adds rfl rfl rfl hs1) hHeld ?_
        simp only [Act.put, List.setIfInBounds_toArray, List.set_cons_zero, List.set_cons_succ]
        refine held_take (v := .string (idB p q ++ ⟨#[32]⟩ ++ ⟨#[63]⟩)) 5 21 [true, true, true, true, true, true, true, true, true, true, true, true, true, true, true, false, false] rfl (by rfl) (by rfl) (by kernel_rfl) (by kernel_rfl) (by kernel_rfl) (by rfl) (fun _ _ _ h => h) (fun w' h => run_op_adds rfl rfl rfl hs2) hHeld ?_
        simp only [Act.put, List.setIfInBounds_toArray, List.set_cons_zero, List.set_cons_succ]
        refine held_call 15 31 [true, true, true, true, true, true, true, true, true, true, true, true, true, true, true, true, false] (by kernel_rfl) rfl (by rfl) (by rfl) (by rfl) (by go_simp) ((RW.out _ 4 _ hsl4 hHeld).mono ?_)
        rintro e w9 ⟨rfl, hb9⟩
        refine ⟨_, rfl, hHeld.trans (hb9.mono hHeld.size), fun hHeld => ?_⟩
        simp only [Act.put, List.setIfInBounds_toArray, List.set_cons_zero, List.set_cons_succ]
        refine held_take (v := ?_) 16 2 [true, true, true, true, true, true, true, true, true, true, true, true, true, true, true, true, true] rfl (by rfl) (by rfl) (by kernel_rfl) (by kernel_rfl) (by kernel_rfl) (by rfl) (fun _ _ _ h => h) ?_ hHeld ?_
        rotate_left
        · intro w hSw; go_simp <;> with_reducible rfl
        simp only [Act.put, List.setIfInBounds_toArray, List.set_cons_zero, List.set_cons_succ]
        refine held_done (by kernel_rfl) ?_
        have HB9 := HB.out.trans (hHeld.mono (HG0.out ▸ HB.out.size))
        go_wp2_with fail
        go_ret
        have hge := HG0.out
        subst hge
        exact ⟨by rw [HRV.out]; rfl, HB9⟩

end Go.Proofs.YtaaefkadkciohaaDoor
