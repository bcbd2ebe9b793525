/- The statement of requests as lines. -/
import Derived.Test.YtaaefkadkciohaaDoorOut6
import Derived.Test.YtaaefkadkciohaaDoorRows
import Derived.Deep.DeepCutAuto
import Derived.Maps.AppendAt
import Derived.Test.YtaaefkadkciohaaDoorRow
import Derived.Test.YtaaefkadkciohaaDoorOps
import Derived.RegionTactic
import Derived.BigRegion
import Derived.ChangeAlike
namespace Go.Proofs.YtaaefkadkciohaaDoor
set_option linter.unusedVariables false
set_option linter.unusedSimpArgs false
open Go.ChangeShapes Go.WideShapes Go.ChangeAt Go.RowKit
theorem words12 (w : World) (i : Nat) (hi : i < 12) : (w.alloc (.cells #[.string ⟨#[63]⟩, .string ⟨#[114, 101, 115, 101, 114, 118, 101]⟩, .string ⟨#[97, 100, 106, 117, 115, 116]⟩, .string ⟨#[114, 101, 108, 101, 97, 115, 101]⟩, .string ⟨#[97, 117, 116, 104, 111, 114, 105, 122, 101]⟩, .string ⟨#[108, 97, 98, 101, 108]⟩, .string ⟨#[112, 105, 99, 107]⟩, .string ⟨#[109, 97, 105, 108]⟩, .string ⟨#[114, 101, 99, 101, 105, 112, 116]⟩, .string ⟨#[99, 97, 112, 116, 117, 114, 101]⟩, .string ⟨#[114, 101, 112, 97, 121]⟩, .string ⟨#[100, 105, 115, 112, 97, 116, 99, 104]⟩] 55)).cell? ⟨w.heap.size, i, none⟩ = some (.string (wordB i)) := by
  rw [(Blk.new w #[.string ⟨#[63]⟩, .string ⟨#[114, 101, 115, 101, 114, 118, 101]⟩, .string ⟨#[97, 100, 106, 117, 115, 116]⟩, .string ⟨#[114, 101, 108, 101, 97, 115, 101]⟩, .string ⟨#[97, 117, 116, 104, 111, 114, 105, 122, 101]⟩, .string ⟨#[108, 97, 98, 101, 108]⟩, .string ⟨#[112, 105, 99, 107]⟩, .string ⟨#[109, 97, 105, 108]⟩, .string ⟨#[114, 101, 99, 101, 105, 112, 116]⟩, .string ⟨#[99, 97, 112, 116, 117, 114, 101]⟩, .string ⟨#[114, 101, 112, 97, 121]⟩, .string ⟨#[100, 105, 115, 112, 97, 116, 99, 104]⟩] 55).cell i]
  rcases i with _ | _ | _ | _ | _ | _ | _ | _ | _ | _ | _ | _ | i
  all_goals first | rfl | omega
theorem nums2 (WB : ByteArray) (a n : Int) : WB ++ ⟨#[32]⟩ ++ itB a ++ ⟨#[32]⟩ ++ itB n = WB ++ numsB [a, n] := by
  rw [ba_eta WB, itB_eq, itB_eq]
  show (⟨WB.data.toList.toArray⟩ : ByteArray) ++ ⟨([32] : List UInt8).toArray⟩ ++ ⟨(Lib.itoa a).toArray⟩ ++ ⟨([32] : List UInt8).toArray⟩ ++ ⟨(Lib.itoa n).toArray⟩ = ⟨WB.data.toList.toArray⟩ ++ ⟨(numsL [a, n]).toArray⟩
  simp only [ba_app]
  simp [numsL]
theorem RowQ : RowT 54 9 := ⟨⟨_, Tryd.underlying54, rfl⟩, by kernel_rfl⟩
theorem flatQ : flat Tryd.prog 6 54 = some [some .i64, some .i64, some .i64, none, some .i64, some .i64, some .i64, some .i64, some .i64] := by kernel_rfl
theorem Arg.request {w : World} {v : Value} (h : Arg Tryd.prog w 54 v) : ∃ p q o u k a n p2 q2, v = .agg #[.int .i64 p, .int .i64 q, .int .i64 o, .bool u, .int .i64 k, .int .i64 a, .int .i64 n, .int .i64 p2, .int .i64 q2] ∧ ∀ z ∈ [p, q, o, k, a, n, p2, q2], fits z = true := by
  obtain ⟨cs, rfl, h2⟩ := h.flat_struct Tryd.underlying54 flatQ
  have e : cs = cs.toList.toArray := (Array.toArray_toList).symm
  generalize cs.toList = vs at *
  subst e
  have hl := h2.len
  match vs, hl, h2 with
  | [v0, v1, v2, v3, v4, v5, v6, v7, v8], _, h2 =>
    obtain ⟨⟨p, rfl, f0⟩, ⟨q, rfl, f1⟩, ⟨o, rfl, f2⟩, ⟨u, rfl⟩, ⟨k, rfl, f4⟩, ⟨a, rfl, f5⟩, ⟨n, rfl, f6⟩, ⟨p2, rfl, f7⟩, ⟨q2, rfl, f8⟩, _⟩ := h2
    refine ⟨p, q, o, u, k, a, n, p2, q2, rfl, ?_⟩
    intro z hz
    simp only [List.mem_cons, List.not_mem_nil, or_false] at hz
    rcases hz with h | h | h | h | h | h | h | h <;> rw [h] <;> (apply fits_wf; assumption)
set_option maxRecDepth 100000 in
set_option maxHeartbeats 8000000 in
theorem requests39 (p q o : Int) (u : Bool) (k a n p2 q2 : Int) (w : World) (hf : ∀ z ∈ [p, q, o, k, a, n, p2, q2], fits z = true) (hT : PTab w) (hW : WTab w) (hBk : STab 1 bookW w) (hS : STab 0 stW w) : Calls Tryd.prog 5 #[.agg #[.int .i64 p, .int .i64 q, .int .i64 o, .bool u, .int .i64 k, .int .i64 a, .int .i64 n, .int .i64 p2, .int .i64 q2]] w fun e w' => e = .returned (.bool true) ∧ Below w.heap.size w w' := by
  have hfp := hf p (by simp)
  have hfq := hf q (by simp)
  have hfo := hf o (by simp)
  have hfp2 := hf p2 (by simp)
  have hfq2 := hf q2 (by simp)
  have hf2 : ∀ z ∈ [a, n], fits z = true := fun z hz => hf z (by simp at hz ⊢; rcases hz with h | h <;> simp [h])
  have s1 := keyB_size u hfp hfq hfo
  have s2 := idB_small p2 q2 hfp2 hfq2
  have s4 := numsB_size hf2
  simp only [List.length_cons, List.length_nil] at s4
  have hs1 : (keyB p q o u).size + (⟨#[32]⟩ : ByteArray).size ≤ 100000 := by show _ + 1 ≤ _; omega
  have hs1s : (keyB p q o u ++ ⟨#[32]⟩).size ≤ 67 := by rw [ByteArray.size_append]; show _ + 1 ≤ _; omega
  rcases hk : isKnd k with _ | _
  · have hkk : ¬ (1 ≤ k ∧ k ≤ 11) := by rw [← isKnd_iff, hk]; decide
    have hs2 : (keyB p q o u ++ ⟨#[32]⟩).size + (⟨#[63]⟩ : ByteArray).size ≤ 100000 := by show _ + 1 ≤ _; omega
    have hs3 : (keyB p q o u ++ ⟨#[32]⟩ ++ ⟨#[63]⟩).size + (numsB [a, n]).size ≤ 100000 := by rw [ByteArray.size_append]; show _ + 1 + _ ≤ _; omega
    by_cases h1 : 1 ≤ k
    · have h2 : ¬ k ≤ 11 := fun h => hkk ⟨h1, h⟩
      clear hkk
      by_cases hz : p2 = 0 ∧ q2 = 0
      · have HRQ : reqB p q o u k a n p2 q2 = keyB p q o u ++ ⟨#[32]⟩ ++ ⟨#[63]⟩ ++ numsB [a, n] := by
          have e : txtB k a n p2 q2 = ⟨#[63]⟩ ++ ⟨#[32]⟩ ++ itB a ++ ⟨#[32]⟩ ++ itB n := by unfold txtB; rw [hk]; exact if_pos hz
          unfold reqB
          rw [e, nums2, ← ByteArray.append_assoc]
        clear hk
        skip
        have HB := Lib.hid ((Below.refl w.heap.size w).alloc (Nat.le_refl _) (.cells #[.int .i64 p, .int .i64 q, .int .i64 o, .bool u, .int .i64 k, .int .i64 a, .int .i64 n, .int .i64 p2, .int .i64 q2] 54))
        have A : Hid (Blk (w.alloc (.cells #[.int .i64 p, .int .i64 q, .int .i64 o, .bool u, .int .i64 k, .int .i64 a, .int .i64 n, .int .i64 p2, .int .i64 q2] 54)) w.heap.size #[.int .i64 p, .int .i64 q, .int .i64 o, .bool u, .int .i64 k, .int .i64 a, .int .i64 n, .int .i64 p2, .int .i64 q2].toList 54) := Lib.hid (Blk.new w #[.int .i64 p, .int .i64 q, .int .i64 o, .bool u, .int .i64 k, .int .i64 a, .int .i64 n, .int .i64 p2, .int .i64 q2] 54)
        have HAL := Lib.hid (fun w' (hb : Below w.heap.size w w') => alive39 w' (hT.keep hb) (hBk.keep hb) (hS.keep hb))
        have CQ := Lib.hid (fun w' (hb : Below w.heap.size w w') => request_any p q o u k a n p2 q2 w' hf (hT.keep hb) (hW.keep hb))
        rw [HRQ] at CQ
        have CI := Lib.hid (fun w' => show Calls Tryd.prog 16 #[.agg ([.int .i64 p, .int .i64 q, .int .i64 o, .bool u] : List Value).toArray] w' _ from rkeytext_any p q o u w' hfp hfq hfo)
        have DM := Lib.hid (fun a' c' w' (h : Sl w' a' 2 1 (ints [a, n])) => decimals_any a' 2 c' [a, n] w' h (by decide) hf2)
        have CJ := Lib.hid (fun w' => ridtext_any p2 q2 w' hfp2 hfq2)
        have HNE := Lib.hid (id_ne hfp2 hfq2)
        rw [decide_eq_true hz] at HNE
        clear hT hW hS hBk hf hfp hfq hfo hf2 hfp2 hfq2 hz HRQ
        generalize keyB p q o u = KB at *
        generalize numsB [a, n] = NB at *
        generalize idB p2 q2 = IB at *
        go_enter Tryd.func5, Tryd.ntmps5
        go_upto_region 1 with fail
        generalize hg0 : w.heap.size = g0 at *
        have HG0 := Lib.hid hg0
        generalize (w.alloc (.cells #[.int .i64 p, .int .i64 q, .int .i64 o, .bool u, .int .i64 k, .int .i64 a, .int .i64 n, .int .i64 p2, .int .i64 q2] 54)) = w1 at *
        clear hg0
        have AL1 := Lib.hid (HAL.out w1 HB.out)
        go_wp2_with fail
        refine AL1.out.mono ?_
        rintro e w2 ⟨rfl, hb⟩
        have HB2 := Lib.hid (HB.out.trans (hb.mono (HG0.out ▸ HB.out.size)))
        have A2 := Lib.hid (A.out.keep hb A.out.lt)
        clear hb HB A AL1 HAL
        have HC := Lib.hid (words12 w2)
        have HB3 := Lib.hid (HB2.out.alloc (HG0.out ▸ HB2.out.size) (.cells #[.string ⟨#[63]⟩, .string ⟨#[114, 101, 115, 101, 114, 118, 101]⟩, .string ⟨#[97, 100, 106, 117, 115, 116]⟩, .string ⟨#[114, 101, 108, 101, 97, 115, 101]⟩, .string ⟨#[97, 117, 116, 104, 111, 114, 105, 122, 101]⟩, .string ⟨#[108, 97, 98, 101, 108]⟩, .string ⟨#[112, 105, 99, 107]⟩, .string ⟨#[109, 97, 105, 108]⟩, .string ⟨#[114, 101, 99, 101, 105, 112, 116]⟩, .string ⟨#[99, 97, 112, 116, 117, 114, 101]⟩, .string ⟨#[114, 101, 112, 97, 121]⟩, .string ⟨#[100, 105, 115, 112, 97, 116, 99, 104]⟩] 55))
        have A3 := Lib.hid (A2.out.alloc (.cells #[.string ⟨#[63]⟩, .string ⟨#[114, 101, 115, 101, 114, 118, 101]⟩, .string ⟨#[97, 100, 106, 117, 115, 116]⟩, .string ⟨#[114, 101, 108, 101, 97, 115, 101]⟩, .string ⟨#[97, 117, 116, 104, 111, 114, 105, 122, 101]⟩, .string ⟨#[108, 97, 98, 101, 108]⟩, .string ⟨#[112, 105, 99, 107]⟩, .string ⟨#[109, 97, 105, 108]⟩, .string ⟨#[114, 101, 99, 101, 105, 112, 116]⟩, .string ⟨#[99, 97, 112, 116, 117, 114, 101]⟩, .string ⟨#[114, 101, 112, 97, 121]⟩, .string ⟨#[100, 105, 115, 112, 97, 116, 99, 104]⟩] 55))
        go_upto_region 4 with fail
        clear HB2 A2
        generalize hg2 : w2.heap.size = g2 at *
        generalize w2.alloc (.cells #[.string ⟨#[63]⟩, .string ⟨#[114, 101, 115, 101, 114, 118, 101]⟩, .string ⟨#[97, 100, 106, 117, 115, 116]⟩, .string ⟨#[114, 101, 108, 101, 97, 115, 101]⟩, .string ⟨#[97, 117, 116, 104, 111, 114, 105, 122, 101]⟩, .string ⟨#[108, 97, 98, 101, 108]⟩, .string ⟨#[112, 105, 99, 107]⟩, .string ⟨#[109, 97, 105, 108]⟩, .string ⟨#[114, 101, 99, 101, 105, 112, 116]⟩, .string ⟨#[99, 97, 112, 116, 117, 114, 101]⟩, .string ⟨#[114, 101, 112, 97, 121]⟩, .string ⟨#[100, 105, 115, 112, 97, 116, 99, 104]⟩] 55) = w3 at *
        clear hg2
        have ck := A3.out.cell 4
        skip
        go_upto_region 7 with fail
        clear ck HC
        skip
        refine held_begin (fun w' => Below w3.heap.size w3 w') 16 [false, false, false, false, false, false, false, false, false, false, false, false, false, false, false, false] (by kernel_rfl) rfl (by rfl) ?_
        have hHeld : Below w3.heap.size w3 w3.drew := (Below.refl _ _).drew
        refine held_take (v := ?_) 0 24 [true, false, false, false, false, false, false, false, false, false, false, false, false, false, false, false] rfl (by rfl) (by rfl) (by kernel_rfl) (by kernel_rfl) (by kernel_rfl) (by rfl) (fun _ _ _ h => h) ?_ hHeld ?_
        rotate_left
        · intro w hSw; go_simp <;> with_reducible rfl
        simp only [Act.put, List.setIfInBounds_toArray, List.set_cons_zero, List.set_cons_succ]
        refine held_take (v := .agg ([.int .i64 p, .int .i64 q, .int .i64 o, .bool u] : List Value).toArray) 1 25 [true, true, false, false, false, false, false, false, false, false, false, false, false, false, false, false] rfl (by rfl) (by rfl) (by kernel_rfl) (by kernel_rfl) (by kernel_rfl) (by rfl) (fun _ _ _ h => h) (fun w' h => run_op_load rfl rfl ((A3.out.keep h A3.out.lt).range 0 [.int .i64 p, .int .i64 q, .int .i64 o, .bool u] rfl) Tryd.underlying50 rfl key_sz) hHeld ?_
        simp only [Act.put, List.setIfInBounds_toArray, List.set_cons_zero, List.set_cons_succ]
        refine held_take (v := ?_) 4 28 [true, true, false, false, true, false, false, false, false, false, false, false, false, false, false, false] rfl (by rfl) (by rfl) (by kernel_rfl) (by kernel_rfl) (by kernel_rfl) (by rfl) (fun _ _ _ h => h) ?_ hHeld ?_
        rotate_left
        · intro w hSw; go_simp <;> with_reducible rfl
        simp only [Act.put, List.setIfInBounds_toArray, List.set_cons_zero, List.set_cons_succ]
        refine held_take (v := ?_) 6 30 [true, true, false, false, true, false, true, false, false, false, false, false, false, false, false, false] rfl (by rfl) (by rfl) (by kernel_rfl) (by kernel_rfl) (by kernel_rfl) (by rfl) (fun _ _ _ h => h) ?_ hHeld ?_
        rotate_left
        · intro w hSw; go_simp <;> with_reducible rfl
        simp only [Act.put, List.setIfInBounds_toArray, List.set_cons_zero, List.set_cons_succ]
        refine held_take (v := ?_) 7 31 [true, true, false, false, true, false, true, true, false, false, false, false, false, false, false, false] rfl (by rfl) (by rfl) (by kernel_rfl) (by kernel_rfl) (by kernel_rfl) (by rfl) (fun _ _ _ h => h) ?_ hHeld ?_
        rotate_left
        · intro w hSw; go_simp <;> with_reducible rfl
        simp only [Act.put, List.setIfInBounds_toArray, List.set_cons_zero, List.set_cons_succ]
        refine held_take (v := .int .i64 a) 8 32 [true, true, false, false, true, false, true, true, true, false, false, false, false, false, false, false] rfl (by rfl) (by rfl) (by kernel_rfl) (by kernel_rfl) (by kernel_rfl) (by rfl) (fun _ _ _ h => h) (fun w' h => run_op_one rfl rfl Tryd.underlying3 rfl ((A3.out.keep h A3.out.lt).cell 5)) hHeld ?_
        simp only [Act.put, List.setIfInBounds_toArray, List.set_cons_zero, List.set_cons_succ]
        refine held_take (v := ?_) 9 33 [true, true, false, false, true, false, true, true, true, true, false, false, false, false, false, false] rfl (by rfl) (by rfl) (by kernel_rfl) (by kernel_rfl) (by kernel_rfl) (by rfl) (fun _ _ _ h => h) ?_ hHeld ?_
        rotate_left
        · intro w hSw; go_simp <;> with_reducible rfl
        simp only [Act.put, List.setIfInBounds_toArray, List.set_cons_zero, List.set_cons_succ]
        refine held_take (v := ?_) 10 34 [true, true, false, false, true, false, true, true, true, true, true, false, false, false, false, false] rfl (by rfl) (by rfl) (by kernel_rfl) (by kernel_rfl) (by kernel_rfl) (by rfl) (fun _ _ _ h => h) ?_ hHeld ?_
        rotate_left
        · intro w hSw; go_simp <;> with_reducible rfl
        simp only [Act.put, List.setIfInBounds_toArray, List.set_cons_zero, List.set_cons_succ]
        refine held_take (v := .int .i64 n) 11 35 [true, true, false, false, true, false, true, true, true, true, true, true, false, false, false, false] rfl (by rfl) (by rfl) (by kernel_rfl) (by kernel_rfl) (by kernel_rfl) (by rfl) (fun _ _ _ h => h) (fun w' h => run_op_one rfl rfl Tryd.underlying2 rfl ((A3.out.keep h A3.out.lt).cell 6)) hHeld ?_
        simp only [Act.put, List.setIfInBounds_toArray, List.set_cons_zero, List.set_cons_succ]
        refine held_two 2 12 (by kernel_rfl) ?_ ?_
        · refine op_call 26 [true, true, true, false, true, false, true, true, true, true, true, true, false, false, false, false] rfl (by rfl) (by rfl) (by rfl) (by go_simp) ((CI.out _).mono ?_)
          rintro e w4 ⟨rfl, hb4⟩
          refine ⟨_, rfl, hHeld.trans (hb4.mono hHeld.size), fun hHeld => ?_⟩
          simp only [Act.put, List.setIfInBounds_toArray, List.set_cons_zero, List.set_cons_succ]
          have hal := (Below.refl w4.heap.size w4).alloc (Nat.le_refl _) (.cells #[.int .i64 a, .int .i64 n] 2)
          have hsl := sl_lit w4 2 [a, n] (by simp)
          refine held_take (v := .string (KB ++ ⟨#[32]⟩)) 3 27 [true, true, true, true, true, false, true, true, true, true, true, true, false, false, false, false] rfl (by rfl) (by rfl) (by kernel_rfl) (by kernel_rfl) (by kernel_rfl) (by rfl) (fun _ _ _ h => h) (fun w' h => run_op_adds rfl rfl rfl hs1) hHeld ?_
          simp only [Act.put, List.setIfInBounds_toArray, List.set_cons_zero, List.set_cons_succ]
          refine held_take (v := .string (KB ++ ⟨#[32]⟩ ++ ⟨#[63]⟩)) 5 29 [true, true, true, true, true, true, true, true, true, true, true, true, false, false, false, false] rfl (by rfl) (by rfl) (by kernel_rfl) (by kernel_rfl) (by kernel_rfl) (by rfl) (fun _ _ _ h => h) (fun w' h => run_op_adds rfl rfl rfl hs2) hHeld ?_
          simp only [Act.put, List.setIfInBounds_toArray, List.set_cons_zero, List.set_cons_succ]
          refine held_one 12 (by kernel_rfl) ?_
          refine op_value (v := .slice (some ⟨w4.heap.size, 0, none⟩) 2 2) 36 [true, true, true, true, true, true, true, true, true, true, true, true, true, false, false, false] rfl (by rfl) (by rfl) (by rfl) (by go_simp <;> rfl) (hHeld.trans (hal.mono hHeld.size)) fun hHeld => ?_
          simp only [Act.put, List.setIfInBounds_toArray, List.set_cons_zero, List.set_cons_succ]
          refine held_call 13 37 [true, true, true, true, true, true, true, true, true, true, true, true, true, true, false, false] (by kernel_rfl) rfl (by rfl) (by rfl) (by rfl) (by go_simp) ((DM.out _ 2 _ hsl).mono ?_)
          rintro e w9 ⟨rfl, hb9⟩
          refine ⟨_, rfl, hHeld.trans (hb9.mono hHeld.size), fun hHeld => ?_⟩
          simp only [Act.put, List.setIfInBounds_toArray, List.set_cons_zero, List.set_cons_succ]
          refine held_take (v := .string (KB ++ ⟨#[32]⟩ ++ ⟨#[63]⟩ ++ NB)) 14 38 [true, true, true, true, true, true, true, true, true, true, true, true, true, true, true, false] rfl (by rfl) (by rfl) (by kernel_rfl) (by kernel_rfl) (by kernel_rfl) (by rfl) (fun _ _ _ h => h) (fun w' h => run_op_adds rfl rfl rfl hs3) hHeld ?_
          simp only [Act.put, List.setIfInBounds_toArray, List.set_cons_zero, List.set_cons_succ]
          refine held_take (v := ?_) 15 5 [true, true, true, true, true, true, true, true, true, true, true, true, true, true, true, true] rfl (by rfl) (by rfl) (by kernel_rfl) (by kernel_rfl) (by kernel_rfl) (by rfl) (fun _ _ _ h => h) ?_ hHeld ?_
          rotate_left
          · intro w hSw; go_simp <;> with_reducible rfl
          simp only [Act.put, List.setIfInBounds_toArray, List.set_cons_zero, List.set_cons_succ]
          refine held_done (by kernel_rfl) ?_
          have HB9 := Lib.hid (HB3.out.trans (hHeld.mono (HG0.out ▸ HB3.out.size)))
          have A9 := Lib.hid (A3.out.keep hHeld A3.out.lt)
          have ri : w9.rangeAt g0 7 (ints [p2, q2]) := A9.out.range 7 (ints [p2, q2]) rfl
          clear hb9
          go_upto_region 10 with (first
            | ((with_reducible refine ld_row ri id_row ?_ ?_ ?_); (· rfl); (· rfl); (simp only [Act.put, List.setIfInBounds_toArray, List.set_cons_zero, List.set_cons_succ]))
            | ((with_reducible refine cmp_row id_guard HNE.out ?_ ?_ ?_ ?_); (· rfl); (· rfl); (· rfl); (simp only [Act.put, List.setIfInBounds_toArray, List.set_cons_zero, List.set_cons_succ])))
          clear ri
          have rx : w9.rangeAt g0 0 (#[.int .i64 p, .int .i64 q, .int .i64 o, .bool u, .int .i64 k, .int .i64 a, .int .i64 n, .int .i64 p2, .int .i64 q2] : Array Value).toList := A9.out.range 0 _ rfl
          have TQ : RowT 54 ((#[.int .i64 p, .int .i64 q, .int .i64 o, .bool u, .int .i64 k, .int .i64 a, .int .i64 n, .int .i64 p2, .int .i64 q2] : Array Value).toList).length := RowQ
          have CQ1 := Lib.hid (CQ.out w9 HB9.out)
          go_wp2_with (first
            | ((with_reducible refine ld_row rx TQ ?_ ?_ ?_); (· rfl); (· rfl); (simp only [Act.put, List.setIfInBounds_toArray, List.set_cons_zero, List.set_cons_succ])))
          refine CQ1.out.mono ?_
          rintro e wz ⟨rfl, hb⟩
          have HBz := Lib.hid (HB9.out.trans (hb.mono (HG0.out ▸ HB9.out.size)))
          clear hb
          go_wp2_with fail
          go_ret
          have hge := HG0.out
          subst hge
          exact ⟨rfl, HBz.out⟩
        · generalize w3.drew = wD at *
          have hal := (Below.refl wD.heap.size wD).alloc (Nat.le_refl _) (.cells #[.int .i64 a, .int .i64 n] 2)
          have hsl := sl_lit wD 2 [a, n] (by simp)
          refine op_value (v := .slice (some ⟨wD.heap.size, 0, none⟩) 2 2) 36 [true, true, false, false, true, false, true, true, true, true, true, true, true, false, false, false] rfl (by rfl) (by rfl) (by rfl) (by go_simp <;> rfl) (hHeld.trans (hal.mono hHeld.size)) fun hHeld => ?_
          simp only [Act.put, List.setIfInBounds_toArray, List.set_cons_zero, List.set_cons_succ]
          refine held_call 2 26 [true, true, true, false, true, false, true, true, true, true, true, true, true, false, false, false] (by kernel_rfl) rfl (by rfl) (by rfl) (by rfl) (by go_simp) ((CI.out _).mono ?_)
          rintro e w4 ⟨rfl, hb4⟩
          refine ⟨_, rfl, hHeld.trans (hb4.mono hHeld.size), fun hHeld => ?_⟩
          simp only [Act.put, List.setIfInBounds_toArray, List.set_cons_zero, List.set_cons_succ]
          have hsl4 := hsl.keep hb4
          refine held_take (v := .string (KB ++ ⟨#[32]⟩)) 3 27 [true, true, true, true, true, false, true, true, true, true, true, true, true, false, false, false] rfl (by rfl) (by rfl) (by kernel_rfl) (by kernel_rfl) (by kernel_rfl) (by rfl) (fun _ _ _ h => h) (fun w' h => run_op_adds rfl rfl rfl hs1) hHeld ?_
          simp only [Act.put, List.setIfInBounds_toArray, List.set_cons_zero, List.set_cons_succ]
          refine held_take (v := .string (KB ++ ⟨#[32]⟩ ++ ⟨#[63]⟩)) 5 29 [true, true, true, true, true, true, true, true, true, true, true, true, true, false, false, false] rfl (by rfl) (by rfl) (by kernel_rfl) (by kernel_rfl) (by kernel_rfl) (by rfl) (fun _ _ _ h => h) (fun w' h => run_op_adds rfl rfl rfl hs2) hHeld ?_
          simp only [Act.put, List.setIfInBounds_toArray, List.set_cons_zero, List.set_cons_succ]
          refine held_call 13 37 [true, true, true, true, true, true, true, true, true, true, true, true, true, true, false, false] (by kernel_rfl) rfl (by rfl) (by rfl) (by rfl) (by go_simp) ((DM.out _ 2 _ hsl4).mono ?_)
          rintro e w9 ⟨rfl, hb9⟩
          refine ⟨_, rfl, hHeld.trans (hb9.mono hHeld.size), fun hHeld => ?_⟩
          simp only [Act.put, List.setIfInBounds_toArray, List.set_cons_zero, List.set_cons_succ]
          refine held_take (v := .string (KB ++ ⟨#[32]⟩ ++ ⟨#[63]⟩ ++ NB)) 14 38 [true, true, true, true, true, true, true, true, true, true, true, true, true, true, true, false] rfl (by rfl) (by rfl) (by kernel_rfl) (by kernel_rfl) (by kernel_rfl) (by rfl) (fun _ _ _ h => h) (fun w' h => run_op_adds rfl rfl rfl hs3) hHeld ?_
          simp only [Act.put, List.setIfInBounds_toArray, List.set_cons_zero, List.set_cons_succ]
          refine held_take (v := ?_) 15 5 [true, true, true, true, true, true, true, true, true, true, true, true, true, true, true, true] rfl (by rfl) (by rfl) (by kernel_rfl) (by kernel_rfl) (by kernel_rfl) (by rfl) (fun _ _ _ h => h) ?_ hHeld ?_
          rotate_left
          · intro w hSw; go_simp <;> with_reducible rfl
          simp only [Act.put, List.setIfInBounds_toArray, List.set_cons_zero, List.set_cons_succ]
          refine held_done (by kernel_rfl) ?_
          have HB9 := Lib.hid (HB3.out.trans (hHeld.mono (HG0.out ▸ HB3.out.size)))
          have A9 := Lib.hid (A3.out.keep hHeld A3.out.lt)
          have ri : w9.rangeAt g0 7 (ints [p2, q2]) := A9.out.range 7 (ints [p2, q2]) rfl
          clear hb9
          go_upto_region 10 with (first
            | ((with_reducible refine ld_row ri id_row ?_ ?_ ?_); (· rfl); (· rfl); (simp only [Act.put, List.setIfInBounds_toArray, List.set_cons_zero, List.set_cons_succ]))
            | ((with_reducible refine cmp_row id_guard HNE.out ?_ ?_ ?_ ?_); (· rfl); (· rfl); (· rfl); (simp only [Act.put, List.setIfInBounds_toArray, List.set_cons_zero, List.set_cons_succ])))
          clear ri
          have rx : w9.rangeAt g0 0 (#[.int .i64 p, .int .i64 q, .int .i64 o, .bool u, .int .i64 k, .int .i64 a, .int .i64 n, .int .i64 p2, .int .i64 q2] : Array Value).toList := A9.out.range 0 _ rfl
          have TQ : RowT 54 ((#[.int .i64 p, .int .i64 q, .int .i64 o, .bool u, .int .i64 k, .int .i64 a, .int .i64 n, .int .i64 p2, .int .i64 q2] : Array Value).toList).length := RowQ
          have CQ1 := Lib.hid (CQ.out w9 HB9.out)
          go_wp2_with (first
            | ((with_reducible refine ld_row rx TQ ?_ ?_ ?_); (· rfl); (· rfl); (simp only [Act.put, List.setIfInBounds_toArray, List.set_cons_zero, List.set_cons_succ])))
          refine CQ1.out.mono ?_
          rintro e wz ⟨rfl, hb⟩
          have HBz := Lib.hid (HB9.out.trans (hb.mono (HG0.out ▸ HB9.out.size)))
          clear hb
          go_wp2_with fail
          go_ret
          have hge := HG0.out
          subst hge
          exact ⟨rfl, HBz.out⟩

      · have HRQ : reqB p q o u k a n p2 q2 = keyB p q o u ++ ⟨#[32]⟩ ++ ⟨#[63]⟩ ++ numsB [a, n] ++ ⟨#[32]⟩ ++ idB p2 q2 := by
          have e : txtB k a n p2 q2 = ⟨#[63]⟩ ++ ⟨#[32]⟩ ++ itB a ++ ⟨#[32]⟩ ++ itB n ++ (⟨#[32]⟩ ++ idB p2 q2) := by unfold txtB; rw [hk]; exact if_neg hz
          unfold reqB
          rw [e, nums2, ← ByteArray.append_assoc, ← ByteArray.append_assoc, ← ByteArray.append_assoc]
        clear hk
        skip
        have HB := Lib.hid ((Below.refl w.heap.size w).alloc (Nat.le_refl _) (.cells #[.int .i64 p, .int .i64 q, .int .i64 o, .bool u, .int .i64 k, .int .i64 a, .int .i64 n, .int .i64 p2, .int .i64 q2] 54))
        have A : Hid (Blk (w.alloc (.cells #[.int .i64 p, .int .i64 q, .int .i64 o, .bool u, .int .i64 k, .int .i64 a, .int .i64 n, .int .i64 p2, .int .i64 q2] 54)) w.heap.size #[.int .i64 p, .int .i64 q, .int .i64 o, .bool u, .int .i64 k, .int .i64 a, .int .i64 n, .int .i64 p2, .int .i64 q2].toList 54) := Lib.hid (Blk.new w #[.int .i64 p, .int .i64 q, .int .i64 o, .bool u, .int .i64 k, .int .i64 a, .int .i64 n, .int .i64 p2, .int .i64 q2] 54)
        have HAL := Lib.hid (fun w' (hb : Below w.heap.size w w') => alive39 w' (hT.keep hb) (hBk.keep hb) (hS.keep hb))
        have CQ := Lib.hid (fun w' (hb : Below w.heap.size w w') => request_any p q o u k a n p2 q2 w' hf (hT.keep hb) (hW.keep hb))
        rw [HRQ] at CQ
        have CI := Lib.hid (fun w' => show Calls Tryd.prog 16 #[.agg ([.int .i64 p, .int .i64 q, .int .i64 o, .bool u] : List Value).toArray] w' _ from rkeytext_any p q o u w' hfp hfq hfo)
        have DM := Lib.hid (fun a' c' w' (h : Sl w' a' 2 1 (ints [a, n])) => decimals_any a' 2 c' [a, n] w' h (by decide) hf2)
        have CJ := Lib.hid (fun w' => ridtext_any p2 q2 w' hfp2 hfq2)
        have HNE := Lib.hid (id_ne hfp2 hfq2)
        rw [decide_eq_false hz] at HNE
        clear hT hW hS hBk hf hfp hfq hfo hf2 hfp2 hfq2 hz HRQ
        generalize keyB p q o u = KB at *
        generalize numsB [a, n] = NB at *
        generalize idB p2 q2 = IB at *
        go_enter Tryd.func5, Tryd.ntmps5
        go_upto_region 1 with fail
        generalize hg0 : w.heap.size = g0 at *
        have HG0 := Lib.hid hg0
        generalize (w.alloc (.cells #[.int .i64 p, .int .i64 q, .int .i64 o, .bool u, .int .i64 k, .int .i64 a, .int .i64 n, .int .i64 p2, .int .i64 q2] 54)) = w1 at *
        clear hg0
        have AL1 := Lib.hid (HAL.out w1 HB.out)
        go_wp2_with fail
        refine AL1.out.mono ?_
        rintro e w2 ⟨rfl, hb⟩
        have HB2 := Lib.hid (HB.out.trans (hb.mono (HG0.out ▸ HB.out.size)))
        have A2 := Lib.hid (A.out.keep hb A.out.lt)
        clear hb HB A AL1 HAL
        have HC := Lib.hid (words12 w2)
        have HB3 := Lib.hid (HB2.out.alloc (HG0.out ▸ HB2.out.size) (.cells #[.string ⟨#[63]⟩, .string ⟨#[114, 101, 115, 101, 114, 118, 101]⟩, .string ⟨#[97, 100, 106, 117, 115, 116]⟩, .string ⟨#[114, 101, 108, 101, 97, 115, 101]⟩, .string ⟨#[97, 117, 116, 104, 111, 114, 105, 122, 101]⟩, .string ⟨#[108, 97, 98, 101, 108]⟩, .string ⟨#[112, 105, 99, 107]⟩, .string ⟨#[109, 97, 105, 108]⟩, .string ⟨#[114, 101, 99, 101, 105, 112, 116]⟩, .string ⟨#[99, 97, 112, 116, 117, 114, 101]⟩, .string ⟨#[114, 101, 112, 97, 121]⟩, .string ⟨#[100, 105, 115, 112, 97, 116, 99, 104]⟩] 55))
        have A3 := Lib.hid (A2.out.alloc (.cells #[.string ⟨#[63]⟩, .string ⟨#[114, 101, 115, 101, 114, 118, 101]⟩, .string ⟨#[97, 100, 106, 117, 115, 116]⟩, .string ⟨#[114, 101, 108, 101, 97, 115, 101]⟩, .string ⟨#[97, 117, 116, 104, 111, 114, 105, 122, 101]⟩, .string ⟨#[108, 97, 98, 101, 108]⟩, .string ⟨#[112, 105, 99, 107]⟩, .string ⟨#[109, 97, 105, 108]⟩, .string ⟨#[114, 101, 99, 101, 105, 112, 116]⟩, .string ⟨#[99, 97, 112, 116, 117, 114, 101]⟩, .string ⟨#[114, 101, 112, 97, 121]⟩, .string ⟨#[100, 105, 115, 112, 97, 116, 99, 104]⟩] 55))
        go_upto_region 4 with fail
        clear HB2 A2
        generalize hg2 : w2.heap.size = g2 at *
        generalize w2.alloc (.cells #[.string ⟨#[63]⟩, .string ⟨#[114, 101, 115, 101, 114, 118, 101]⟩, .string ⟨#[97, 100, 106, 117, 115, 116]⟩, .string ⟨#[114, 101, 108, 101, 97, 115, 101]⟩, .string ⟨#[97, 117, 116, 104, 111, 114, 105, 122, 101]⟩, .string ⟨#[108, 97, 98, 101, 108]⟩, .string ⟨#[112, 105, 99, 107]⟩, .string ⟨#[109, 97, 105, 108]⟩, .string ⟨#[114, 101, 99, 101, 105, 112, 116]⟩, .string ⟨#[99, 97, 112, 116, 117, 114, 101]⟩, .string ⟨#[114, 101, 112, 97, 121]⟩, .string ⟨#[100, 105, 115, 112, 97, 116, 99, 104]⟩] 55) = w3 at *
        clear hg2
        have ck := A3.out.cell 4
        skip
        go_upto_region 7 with fail
        clear ck HC
        skip
        refine held_begin (fun w' => Below w3.heap.size w3 w') 16 [false, false, false, false, false, false, false, false, false, false, false, false, false, false, false, false] (by kernel_rfl) rfl (by rfl) ?_
        have hHeld : Below w3.heap.size w3 w3.drew := (Below.refl _ _).drew
        refine held_take (v := ?_) 0 24 [true, false, false, false, false, false, false, false, false, false, false, false, false, false, false, false] rfl (by rfl) (by rfl) (by kernel_rfl) (by kernel_rfl) (by kernel_rfl) (by rfl) (fun _ _ _ h => h) ?_ hHeld ?_
        rotate_left
        · intro w hSw; go_simp <;> with_reducible rfl
        simp only [Act.put, List.setIfInBounds_toArray, List.set_cons_zero, List.set_cons_succ]
        refine held_take (v := .agg ([.int .i64 p, .int .i64 q, .int .i64 o, .bool u] : List Value).toArray) 1 25 [true, true, false, false, false, false, false, false, false, false, false, false, false, false, false, false] rfl (by rfl) (by rfl) (by kernel_rfl) (by kernel_rfl) (by kernel_rfl) (by rfl) (fun _ _ _ h => h) (fun w' h => run_op_load rfl rfl ((A3.out.keep h A3.out.lt).range 0 [.int .i64 p, .int .i64 q, .int .i64 o, .bool u] rfl) Tryd.underlying50 rfl key_sz) hHeld ?_
        simp only [Act.put, List.setIfInBounds_toArray, List.set_cons_zero, List.set_cons_succ]
        refine held_take (v := ?_) 4 28 [true, true, false, false, true, false, false, false, false, false, false, false, false, false, false, false] rfl (by rfl) (by rfl) (by kernel_rfl) (by kernel_rfl) (by kernel_rfl) (by rfl) (fun _ _ _ h => h) ?_ hHeld ?_
        rotate_left
        · intro w hSw; go_simp <;> with_reducible rfl
        simp only [Act.put, List.setIfInBounds_toArray, List.set_cons_zero, List.set_cons_succ]
        refine held_take (v := ?_) 6 30 [true, true, false, false, true, false, true, false, false, false, false, false, false, false, false, false] rfl (by rfl) (by rfl) (by kernel_rfl) (by kernel_rfl) (by kernel_rfl) (by rfl) (fun _ _ _ h => h) ?_ hHeld ?_
        rotate_left
        · intro w hSw; go_simp <;> with_reducible rfl
        simp only [Act.put, List.setIfInBounds_toArray, List.set_cons_zero, List.set_cons_succ]
        refine held_take (v := ?_) 7 31 [true, true, false, false, true, false, true, true, false, false, false, false, false, false, false, false] rfl (by rfl) (by rfl) (by kernel_rfl) (by kernel_rfl) (by kernel_rfl) (by rfl) (fun _ _ _ h => h) ?_ hHeld ?_
        rotate_left
        · intro w hSw; go_simp <;> with_reducible rfl
        simp only [Act.put, List.setIfInBounds_toArray, List.set_cons_zero, List.set_cons_succ]
        refine held_take (v := .int .i64 a) 8 32 [true, true, false, false, true, false, true, true, true, false, false, false, false, false, false, false] rfl (by rfl) (by rfl) (by kernel_rfl) (by kernel_rfl) (by kernel_rfl) (by rfl) (fun _ _ _ h => h) (fun w' h => run_op_one rfl rfl Tryd.underlying3 rfl ((A3.out.keep h A3.out.lt).cell 5)) hHeld ?_
        simp only [Act.put, List.setIfInBounds_toArray, List.set_cons_zero, List.set_cons_succ]
        refine held_take (v := ?_) 9 33 [true, true, false, false, true, false, true, true, true, true, false, false, false, false, false, false] rfl (by rfl) (by rfl) (by kernel_rfl) (by kernel_rfl) (by kernel_rfl) (by rfl) (fun _ _ _ h => h) ?_ hHeld ?_
        rotate_left
        · intro w hSw; go_simp <;> with_reducible rfl
        simp only [Act.put, List.setIfInBounds_toArray, List.set_cons_zero, List.set_cons_succ]
        refine held_take (v := ?_) 10 34 [true, true, false, false, true, false, true, true, true, true, true, false, false, false, false, false] rfl (by rfl) (by rfl) (by kernel_rfl) (by kernel_rfl) (by kernel_rfl) (by rfl) (fun _ _ _ h => h) ?_ hHeld ?_
        rotate_left
        · intro w hSw; go_simp <;> with_reducible rfl
        simp only [Act.put, List.setIfInBounds_toArray, List.set_cons_zero, List.set_cons_succ]
        refine held_take (v := .int .i64 n) 11 35 [true, true, false, false, true, false, true, true, true, true, true, true, false, false, false, false] rfl (by rfl) (by rfl) (by kernel_rfl) (by kernel_rfl) (by kernel_rfl) (by rfl) (fun _ _ _ h => h) (fun w' h => run_op_one rfl rfl Tryd.underlying2 rfl ((A3.out.keep h A3.out.lt).cell 6)) hHeld ?_
        simp only [Act.put, List.setIfInBounds_toArray, List.set_cons_zero, List.set_cons_succ]
        refine held_two 2 12 (by kernel_rfl) ?_ ?_
        · refine op_call 26 [true, true, true, false, true, false, true, true, true, true, true, true, false, false, false, false] rfl (by rfl) (by rfl) (by rfl) (by go_simp) ((CI.out _).mono ?_)
          rintro e w4 ⟨rfl, hb4⟩
          refine ⟨_, rfl, hHeld.trans (hb4.mono hHeld.size), fun hHeld => ?_⟩
          simp only [Act.put, List.setIfInBounds_toArray, List.set_cons_zero, List.set_cons_succ]
          have hal := (Below.refl w4.heap.size w4).alloc (Nat.le_refl _) (.cells #[.int .i64 a, .int .i64 n] 2)
          have hsl := sl_lit w4 2 [a, n] (by simp)
          refine held_take (v := .string (KB ++ ⟨#[32]⟩)) 3 27 [true, true, true, true, true, false, true, true, true, true, true, true, false, false, false, false] rfl (by rfl) (by rfl) (by kernel_rfl) (by kernel_rfl) (by kernel_rfl) (by rfl) (fun _ _ _ h => h) (fun w' h => run_op_adds rfl rfl rfl hs1) hHeld ?_
          simp only [Act.put, List.setIfInBounds_toArray, List.set_cons_zero, List.set_cons_succ]
          refine held_take (v := .string (KB ++ ⟨#[32]⟩ ++ ⟨#[63]⟩)) 5 29 [true, true, true, true, true, true, true, true, true, true, true, true, false, false, false, false] rfl (by rfl) (by rfl) (by kernel_rfl) (by kernel_rfl) (by kernel_rfl) (by rfl) (fun _ _ _ h => h) (fun w' h => run_op_adds rfl rfl rfl hs2) hHeld ?_
          simp only [Act.put, List.setIfInBounds_toArray, List.set_cons_zero, List.set_cons_succ]
          refine held_one 12 (by kernel_rfl) ?_
          refine op_value (v := .slice (some ⟨w4.heap.size, 0, none⟩) 2 2) 36 [true, true, true, true, true, true, true, true, true, true, true, true, true, false, false, false] rfl (by rfl) (by rfl) (by rfl) (by go_simp <;> rfl) (hHeld.trans (hal.mono hHeld.size)) fun hHeld => ?_
          simp only [Act.put, List.setIfInBounds_toArray, List.set_cons_zero, List.set_cons_succ]
          refine held_call 13 37 [true, true, true, true, true, true, true, true, true, true, true, true, true, true, false, false] (by kernel_rfl) rfl (by rfl) (by rfl) (by rfl) (by go_simp) ((DM.out _ 2 _ hsl).mono ?_)
          rintro e w9 ⟨rfl, hb9⟩
          refine ⟨_, rfl, hHeld.trans (hb9.mono hHeld.size), fun hHeld => ?_⟩
          simp only [Act.put, List.setIfInBounds_toArray, List.set_cons_zero, List.set_cons_succ]
          refine held_take (v := .string (KB ++ ⟨#[32]⟩ ++ ⟨#[63]⟩ ++ NB)) 14 38 [true, true, true, true, true, true, true, true, true, true, true, true, true, true, true, false] rfl (by rfl) (by rfl) (by kernel_rfl) (by kernel_rfl) (by kernel_rfl) (by rfl) (fun _ _ _ h => h) (fun w' h => run_op_adds rfl rfl rfl hs3) hHeld ?_
          simp only [Act.put, List.setIfInBounds_toArray, List.set_cons_zero, List.set_cons_succ]
          refine held_take (v := ?_) 15 5 [true, true, true, true, true, true, true, true, true, true, true, true, true, true, true, true] rfl (by rfl) (by rfl) (by kernel_rfl) (by kernel_rfl) (by kernel_rfl) (by rfl) (fun _ _ _ h => h) ?_ hHeld ?_
          rotate_left
          · intro w hSw; go_simp <;> with_reducible rfl
          simp only [Act.put, List.setIfInBounds_toArray, List.set_cons_zero, List.set_cons_succ]
          refine held_done (by kernel_rfl) ?_
          have HB9 := Lib.hid (HB3.out.trans (hHeld.mono (HG0.out ▸ HB3.out.size)))
          have A9 := Lib.hid (A3.out.keep hHeld A3.out.lt)
          have ri : w9.rangeAt g0 7 (ints [p2, q2]) := A9.out.range 7 (ints [p2, q2]) rfl
          clear hb9
          go_wp2_with (first
            | ((with_reducible refine ld_row ri id_row ?_ ?_ ?_); (· rfl); (· rfl); (simp only [Act.put, List.setIfInBounds_toArray, List.set_cons_zero, List.set_cons_succ]))
            | ((with_reducible refine cmp_row id_guard HNE.out ?_ ?_ ?_ ?_); (· rfl); (· rfl); (· rfl); (simp only [Act.put, List.setIfInBounds_toArray, List.set_cons_zero, List.set_cons_succ])))
          refine (CJ.out _).mono ?_
          rintro e wy ⟨rfl, hb⟩
          have HBy := Lib.hid (HB9.out.trans (hb.mono (HG0.out ▸ HB9.out.size)))
          have Ay := Lib.hid (A9.out.keep hb A9.out.lt)
          clear hb ri
          go_upto_region 10 with fail
          have rx : wy.rangeAt g0 0 (#[.int .i64 p, .int .i64 q, .int .i64 o, .bool u, .int .i64 k, .int .i64 a, .int .i64 n, .int .i64 p2, .int .i64 q2] : Array Value).toList := Ay.out.range 0 _ rfl
          have TQ : RowT 54 ((#[.int .i64 p, .int .i64 q, .int .i64 o, .bool u, .int .i64 k, .int .i64 a, .int .i64 n, .int .i64 p2, .int .i64 q2] : Array Value).toList).length := RowQ
          have CQ1 := Lib.hid (CQ.out wy HBy.out)
          go_wp2_with (first
            | ((with_reducible refine ld_row rx TQ ?_ ?_ ?_); (· rfl); (· rfl); (simp only [Act.put, List.setIfInBounds_toArray, List.set_cons_zero, List.set_cons_succ])))
          refine CQ1.out.mono ?_
          rintro e wz ⟨rfl, hb⟩
          have HBz := Lib.hid (HBy.out.trans (hb.mono (HG0.out ▸ HBy.out.size)))
          clear hb
          go_wp2_with fail
          go_ret
          have hge := HG0.out
          subst hge
          exact ⟨rfl, HBz.out⟩
        · generalize w3.drew = wD at *
          have hal := (Below.refl wD.heap.size wD).alloc (Nat.le_refl _) (.cells #[.int .i64 a, .int .i64 n] 2)
          have hsl := sl_lit wD 2 [a, n] (by simp)
          refine op_value (v := .slice (some ⟨wD.heap.size, 0, none⟩) 2 2) 36 [true, true, false, false, true, false, true, true, true, true, true, true, true, false, false, false] rfl (by rfl) (by rfl) (by rfl) (by go_simp <;> rfl) (hHeld.trans (hal.mono hHeld.size)) fun hHeld => ?_
          simp only [Act.put, List.setIfInBounds_toArray, List.set_cons_zero, List.set_cons_succ]
          refine held_call 2 26 [true, true, true, false, true, false, true, true, true, true, true, true, true, false, false, false] (by kernel_rfl) rfl (by rfl) (by rfl) (by rfl) (by go_simp) ((CI.out _).mono ?_)
          rintro e w4 ⟨rfl, hb4⟩
          refine ⟨_, rfl, hHeld.trans (hb4.mono hHeld.size), fun hHeld => ?_⟩
          simp only [Act.put, List.setIfInBounds_toArray, List.set_cons_zero, List.set_cons_succ]
          have hsl4 := hsl.keep hb4
          refine held_take (v := .string (KB ++ ⟨#[32]⟩)) 3 27 [true, true, true, true, true, false, true, true, true, true, true, true, true, false, false, false] rfl (by rfl) (by rfl) (by kernel_rfl) (by kernel_rfl) (by kernel_rfl) (by rfl) (fun _ _ _ h => h) (fun w' h => run_op_adds rfl rfl rfl hs1) hHeld ?_
          simp only [Act.put, List.setIfInBounds_toArray, List.set_cons_zero, List.set_cons_succ]
          refine held_take (v := .string (KB ++ ⟨#[32]⟩ ++ ⟨#[63]⟩)) 5 29 [true, true, true, true, true, true, true, true, true, true, true, true, true, false, false, false] rfl (by rfl) (by rfl) (by kernel_rfl) (by kernel_rfl) (by kernel_rfl) (by rfl) (fun _ _ _ h => h) (fun w' h => run_op_adds rfl rfl rfl hs2) hHeld ?_
          simp only [Act.put, List.setIfInBounds_toArray, List.set_cons_zero, List.set_cons_succ]
          refine held_call 13 37 [true, true, true, true, true, true, true, true, true, true, true, true, true, true, false, false] (by kernel_rfl) rfl (by rfl) (by rfl) (by rfl) (by go_simp) ((DM.out _ 2 _ hsl4).mono ?_)
          rintro e w9 ⟨rfl, hb9⟩
          refine ⟨_, rfl, hHeld.trans (hb9.mono hHeld.size), fun hHeld => ?_⟩
          simp only [Act.put, List.setIfInBounds_toArray, List.set_cons_zero, List.set_cons_succ]
          refine held_take (v := .string (KB ++ ⟨#[32]⟩ ++ ⟨#[63]⟩ ++ NB)) 14 38 [true, true, true, true, true, true, true, true, true, true, true, true, true, true, true, false] rfl (by rfl) (by rfl) (by kernel_rfl) (by kernel_rfl) (by kernel_rfl) (by rfl) (fun _ _ _ h => h) (fun w' h => run_op_adds rfl rfl rfl hs3) hHeld ?_
          simp only [Act.put, List.setIfInBounds_toArray, List.set_cons_zero, List.set_cons_succ]
          refine held_take (v := ?_) 15 5 [true, true, true, true, true, true, true, true, true, true, true, true, true, true, true, true] rfl (by rfl) (by rfl) (by kernel_rfl) (by kernel_rfl) (by kernel_rfl) (by rfl) (fun _ _ _ h => h) ?_ hHeld ?_
          rotate_left
          · intro w hSw; go_simp <;> with_reducible rfl
          simp only [Act.put, List.setIfInBounds_toArray, List.set_cons_zero, List.set_cons_succ]
          refine held_done (by kernel_rfl) ?_
          have HB9 := Lib.hid (HB3.out.trans (hHeld.mono (HG0.out ▸ HB3.out.size)))
          have A9 := Lib.hid (A3.out.keep hHeld A3.out.lt)
          have ri : w9.rangeAt g0 7 (ints [p2, q2]) := A9.out.range 7 (ints [p2, q2]) rfl
          clear hb9
          go_wp2_with (first
            | ((with_reducible refine ld_row ri id_row ?_ ?_ ?_); (· rfl); (· rfl); (simp only [Act.put, List.setIfInBounds_toArray, List.set_cons_zero, List.set_cons_succ]))
            | ((with_reducible refine cmp_row id_guard HNE.out ?_ ?_ ?_ ?_); (· rfl); (· rfl); (· rfl); (simp only [Act.put, List.setIfInBounds_toArray, List.set_cons_zero, List.set_cons_succ])))
          refine (CJ.out _).mono ?_
          rintro e wy ⟨rfl, hb⟩
          have HBy := Lib.hid (HB9.out.trans (hb.mono (HG0.out ▸ HB9.out.size)))
          have Ay := Lib.hid (A9.out.keep hb A9.out.lt)
          clear hb ri
          go_upto_region 10 with fail
          have rx : wy.rangeAt g0 0 (#[.int .i64 p, .int .i64 q, .int .i64 o, .bool u, .int .i64 k, .int .i64 a, .int .i64 n, .int .i64 p2, .int .i64 q2] : Array Value).toList := Ay.out.range 0 _ rfl
          have TQ : RowT 54 ((#[.int .i64 p, .int .i64 q, .int .i64 o, .bool u, .int .i64 k, .int .i64 a, .int .i64 n, .int .i64 p2, .int .i64 q2] : Array Value).toList).length := RowQ
          have CQ1 := Lib.hid (CQ.out wy HBy.out)
          go_wp2_with (first
            | ((with_reducible refine ld_row rx TQ ?_ ?_ ?_); (· rfl); (· rfl); (simp only [Act.put, List.setIfInBounds_toArray, List.set_cons_zero, List.set_cons_succ])))
          refine CQ1.out.mono ?_
          rintro e wz ⟨rfl, hb⟩
          have HBz := Lib.hid (HBy.out.trans (hb.mono (HG0.out ▸ HBy.out.size)))
          clear hb
          go_wp2_with fail
          go_ret
          have hge := HG0.out
          subst hge
          exact ⟨rfl, HBz.out⟩


    · clear hkk
      by_cases hz : p2 = 0 ∧ q2 = 0
      · have HRQ : reqB p q o u k a n p2 q2 = keyB p q o u ++ ⟨#[32]⟩ ++ ⟨#[63]⟩ ++ numsB [a, n] := by
          have e : txtB k a n p2 q2 = ⟨#[63]⟩ ++ ⟨#[32]⟩ ++ itB a ++ ⟨#[32]⟩ ++ itB n := by unfold txtB; rw [hk]; exact if_pos hz
          unfold reqB
          rw [e, nums2, ← ByteArray.append_assoc]
        clear hk
        skip
        have HB := Lib.hid ((Below.refl w.heap.size w).alloc (Nat.le_refl _) (.cells #[.int .i64 p, .int .i64 q, .int .i64 o, .bool u, .int .i64 k, .int .i64 a, .int .i64 n, .int .i64 p2, .int .i64 q2] 54))
        have A : Hid (Blk (w.alloc (.cells #[.int .i64 p, .int .i64 q, .int .i64 o, .bool u, .int .i64 k, .int .i64 a, .int .i64 n, .int .i64 p2, .int .i64 q2] 54)) w.heap.size #[.int .i64 p, .int .i64 q, .int .i64 o, .bool u, .int .i64 k, .int .i64 a, .int .i64 n, .int .i64 p2, .int .i64 q2].toList 54) := Lib.hid (Blk.new w #[.int .i64 p, .int .i64 q, .int .i64 o, .bool u, .int .i64 k, .int .i64 a, .int .i64 n, .int .i64 p2, .int .i64 q2] 54)
        have HAL := Lib.hid (fun w' (hb : Below w.heap.size w w') => alive39 w' (hT.keep hb) (hBk.keep hb) (hS.keep hb))
        have CQ := Lib.hid (fun w' (hb : Below w.heap.size w w') => request_any p q o u k a n p2 q2 w' hf (hT.keep hb) (hW.keep hb))
        rw [HRQ] at CQ
        have CI := Lib.hid (fun w' => show Calls Tryd.prog 16 #[.agg ([.int .i64 p, .int .i64 q, .int .i64 o, .bool u] : List Value).toArray] w' _ from rkeytext_any p q o u w' hfp hfq hfo)
        have DM := Lib.hid (fun a' c' w' (h : Sl w' a' 2 1 (ints [a, n])) => decimals_any a' 2 c' [a, n] w' h (by decide) hf2)
        have CJ := Lib.hid (fun w' => ridtext_any p2 q2 w' hfp2 hfq2)
        have HNE := Lib.hid (id_ne hfp2 hfq2)
        rw [decide_eq_true hz] at HNE
        clear hT hW hS hBk hf hfp hfq hfo hf2 hfp2 hfq2 hz HRQ
        generalize keyB p q o u = KB at *
        generalize numsB [a, n] = NB at *
        generalize idB p2 q2 = IB at *
        go_enter Tryd.func5, Tryd.ntmps5
        go_upto_region 1 with fail
        generalize hg0 : w.heap.size = g0 at *
        have HG0 := Lib.hid hg0
        generalize (w.alloc (.cells #[.int .i64 p, .int .i64 q, .int .i64 o, .bool u, .int .i64 k, .int .i64 a, .int .i64 n, .int .i64 p2, .int .i64 q2] 54)) = w1 at *
        clear hg0
        have AL1 := Lib.hid (HAL.out w1 HB.out)
        go_wp2_with fail
        refine AL1.out.mono ?_
        rintro e w2 ⟨rfl, hb⟩
        have HB2 := Lib.hid (HB.out.trans (hb.mono (HG0.out ▸ HB.out.size)))
        have A2 := Lib.hid (A.out.keep hb A.out.lt)
        clear hb HB A AL1 HAL
        have HC := Lib.hid (words12 w2)
        have HB3 := Lib.hid (HB2.out.alloc (HG0.out ▸ HB2.out.size) (.cells #[.string ⟨#[63]⟩, .string ⟨#[114, 101, 115, 101, 114, 118, 101]⟩, .string ⟨#[97, 100, 106, 117, 115, 116]⟩, .string ⟨#[114, 101, 108, 101, 97, 115, 101]⟩, .string ⟨#[97, 117, 116, 104, 111, 114, 105, 122, 101]⟩, .string ⟨#[108, 97, 98, 101, 108]⟩, .string ⟨#[112, 105, 99, 107]⟩, .string ⟨#[109, 97, 105, 108]⟩, .string ⟨#[114, 101, 99, 101, 105, 112, 116]⟩, .string ⟨#[99, 97, 112, 116, 117, 114, 101]⟩, .string ⟨#[114, 101, 112, 97, 121]⟩, .string ⟨#[100, 105, 115, 112, 97, 116, 99, 104]⟩] 55))
        have A3 := Lib.hid (A2.out.alloc (.cells #[.string ⟨#[63]⟩, .string ⟨#[114, 101, 115, 101, 114, 118, 101]⟩, .string ⟨#[97, 100, 106, 117, 115, 116]⟩, .string ⟨#[114, 101, 108, 101, 97, 115, 101]⟩, .string ⟨#[97, 117, 116, 104, 111, 114, 105, 122, 101]⟩, .string ⟨#[108, 97, 98, 101, 108]⟩, .string ⟨#[112, 105, 99, 107]⟩, .string ⟨#[109, 97, 105, 108]⟩, .string ⟨#[114, 101, 99, 101, 105, 112, 116]⟩, .string ⟨#[99, 97, 112, 116, 117, 114, 101]⟩, .string ⟨#[114, 101, 112, 97, 121]⟩, .string ⟨#[100, 105, 115, 112, 97, 116, 99, 104]⟩] 55))
        go_upto_region 4 with fail
        clear HB2 A2
        generalize hg2 : w2.heap.size = g2 at *
        generalize w2.alloc (.cells #[.string ⟨#[63]⟩, .string ⟨#[114, 101, 115, 101, 114, 118, 101]⟩, .string ⟨#[97, 100, 106, 117, 115, 116]⟩, .string ⟨#[114, 101, 108, 101, 97, 115, 101]⟩, .string ⟨#[97, 117, 116, 104, 111, 114, 105, 122, 101]⟩, .string ⟨#[108, 97, 98, 101, 108]⟩, .string ⟨#[112, 105, 99, 107]⟩, .string ⟨#[109, 97, 105, 108]⟩, .string ⟨#[114, 101, 99, 101, 105, 112, 116]⟩, .string ⟨#[99, 97, 112, 116, 117, 114, 101]⟩, .string ⟨#[114, 101, 112, 97, 121]⟩, .string ⟨#[100, 105, 115, 112, 97, 116, 99, 104]⟩] 55) = w3 at *
        clear hg2
        have ck := A3.out.cell 4
        skip
        go_upto_region 7 with fail
        clear ck HC
        skip
        refine held_begin (fun w' => Below w3.heap.size w3 w') 16 [false, false, false, false, false, false, false, false, false, false, false, false, false, false, false, false] (by kernel_rfl) rfl (by rfl) ?_
        have hHeld : Below w3.heap.size w3 w3.drew := (Below.refl _ _).drew
        refine held_take (v := ?_) 0 24 [true, false, false, false, false, false, false, false, false, false, false, false, false, false, false, false] rfl (by rfl) (by rfl) (by kernel_rfl) (by kernel_rfl) (by kernel_rfl) (by rfl) (fun _ _ _ h => h) ?_ hHeld ?_
        rotate_left
        · intro w hSw; go_simp <;> with_reducible rfl
        simp only [Act.put, List.setIfInBounds_toArray, List.set_cons_zero, List.set_cons_succ]
        refine held_take (v := .agg ([.int .i64 p, .int .i64 q, .int .i64 o, .bool u] : List Value).toArray) 1 25 [true, true, false, false, false, false, false, false, false, false, false, false, false, false, false, false] rfl (by rfl) (by rfl) (by kernel_rfl) (by kernel_rfl) (by kernel_rfl) (by rfl) (fun _ _ _ h => h) (fun w' h => run_op_load rfl rfl ((A3.out.keep h A3.out.lt).range 0 [.int .i64 p, .int .i64 q, .int .i64 o, .bool u] rfl) Tryd.underlying50 rfl key_sz) hHeld ?_
        simp only [Act.put, List.setIfInBounds_toArray, List.set_cons_zero, List.set_cons_succ]
        refine held_take (v := ?_) 4 28 [true, true, false, false, true, false, false, false, false, false, false, false, false, false, false, false] rfl (by rfl) (by rfl) (by kernel_rfl) (by kernel_rfl) (by kernel_rfl) (by rfl) (fun _ _ _ h => h) ?_ hHeld ?_
        rotate_left
        · intro w hSw; go_simp <;> with_reducible rfl
        simp only [Act.put, List.setIfInBounds_toArray, List.set_cons_zero, List.set_cons_succ]
        refine held_take (v := ?_) 6 30 [true, true, false, false, true, false, true, false, false, false, false, false, false, false, false, false] rfl (by rfl) (by rfl) (by kernel_rfl) (by kernel_rfl) (by kernel_rfl) (by rfl) (fun _ _ _ h => h) ?_ hHeld ?_
        rotate_left
        · intro w hSw; go_simp <;> with_reducible rfl
        simp only [Act.put, List.setIfInBounds_toArray, List.set_cons_zero, List.set_cons_succ]
        refine held_take (v := ?_) 7 31 [true, true, false, false, true, false, true, true, false, false, false, false, false, false, false, false] rfl (by rfl) (by rfl) (by kernel_rfl) (by kernel_rfl) (by kernel_rfl) (by rfl) (fun _ _ _ h => h) ?_ hHeld ?_
        rotate_left
        · intro w hSw; go_simp <;> with_reducible rfl
        simp only [Act.put, List.setIfInBounds_toArray, List.set_cons_zero, List.set_cons_succ]
        refine held_take (v := .int .i64 a) 8 32 [true, true, false, false, true, false, true, true, true, false, false, false, false, false, false, false] rfl (by rfl) (by rfl) (by kernel_rfl) (by kernel_rfl) (by kernel_rfl) (by rfl) (fun _ _ _ h => h) (fun w' h => run_op_one rfl rfl Tryd.underlying3 rfl ((A3.out.keep h A3.out.lt).cell 5)) hHeld ?_
        simp only [Act.put, List.setIfInBounds_toArray, List.set_cons_zero, List.set_cons_succ]
        refine held_take (v := ?_) 9 33 [true, true, false, false, true, false, true, true, true, true, false, false, false, false, false, false] rfl (by rfl) (by rfl) (by kernel_rfl) (by kernel_rfl) (by kernel_rfl) (by rfl) (fun _ _ _ h => h) ?_ hHeld ?_
        rotate_left
        · intro w hSw; go_simp <;> with_reducible rfl
        simp only [Act.put, List.setIfInBounds_toArray, List.set_cons_zero, List.set_cons_succ]
        refine held_take (v := ?_) 10 34 [true, true, false, false, true, false, true, true, true, true, true, false, false, false, false, false] rfl (by rfl) (by rfl) (by kernel_rfl) (by kernel_rfl) (by kernel_rfl) (by rfl) (fun _ _ _ h => h) ?_ hHeld ?_
        rotate_left
        · intro w hSw; go_simp <;> with_reducible rfl
        simp only [Act.put, List.setIfInBounds_toArray, List.set_cons_zero, List.set_cons_succ]
        refine held_take (v := .int .i64 n) 11 35 [true, true, false, false, true, false, true, true, true, true, true, true, false, false, false, false] rfl (by rfl) (by rfl) (by kernel_rfl) (by kernel_rfl) (by kernel_rfl) (by rfl) (fun _ _ _ h => h) (fun w' h => run_op_one rfl rfl Tryd.underlying2 rfl ((A3.out.keep h A3.out.lt).cell 6)) hHeld ?_
        simp only [Act.put, List.setIfInBounds_toArray, List.set_cons_zero, List.set_cons_succ]
        refine held_two 2 12 (by kernel_rfl) ?_ ?_
        · refine op_call 26 [true, true, true, false, true, false, true, true, true, true, true, true, false, false, false, false] rfl (by rfl) (by rfl) (by rfl) (by go_simp) ((CI.out _).mono ?_)
          rintro e w4 ⟨rfl, hb4⟩
          refine ⟨_, rfl, hHeld.trans (hb4.mono hHeld.size), fun hHeld => ?_⟩
          simp only [Act.put, List.setIfInBounds_toArray, List.set_cons_zero, List.set_cons_succ]
          have hal := (Below.refl w4.heap.size w4).alloc (Nat.le_refl _) (.cells #[.int .i64 a, .int .i64 n] 2)
          have hsl := sl_lit w4 2 [a, n] (by simp)
          refine held_take (v := .string (KB ++ ⟨#[32]⟩)) 3 27 [true, true, true, true, true, false, true, true, true, true, true, true, false, false, false, false] rfl (by rfl) (by rfl) (by kernel_rfl) (by kernel_rfl) (by kernel_rfl) (by rfl) (fun _ _ _ h => h) (fun w' h => run_op_adds rfl rfl rfl hs1) hHeld ?_
          simp only [Act.put, List.setIfInBounds_toArray, List.set_cons_zero, List.set_cons_succ]
          refine held_take (v := .string (KB ++ ⟨#[32]⟩ ++ ⟨#[63]⟩)) 5 29 [true, true, true, true, true, true, true, true, true, true, true, true, false, false, false, false] rfl (by rfl) (by rfl) (by kernel_rfl) (by kernel_rfl) (by kernel_rfl) (by rfl) (fun _ _ _ h => h) (fun w' h => run_op_adds rfl rfl rfl hs2) hHeld ?_
          simp only [Act.put, List.setIfInBounds_toArray, List.set_cons_zero, List.set_cons_succ]
          refine held_one 12 (by kernel_rfl) ?_
          refine op_value (v := .slice (some ⟨w4.heap.size, 0, none⟩) 2 2) 36 [true, true, true, true, true, true, true, true, true, true, true, true, true, false, false, false] rfl (by rfl) (by rfl) (by rfl) (by go_simp <;> rfl) (hHeld.trans (hal.mono hHeld.size)) fun hHeld => ?_
          simp only [Act.put, List.setIfInBounds_toArray, List.set_cons_zero, List.set_cons_succ]
          refine held_call 13 37 [true, true, true, true, true, true, true, true, true, true, true, true, true, true, false, false] (by kernel_rfl) rfl (by rfl) (by rfl) (by rfl) (by go_simp) ((DM.out _ 2 _ hsl).mono ?_)
          rintro e w9 ⟨rfl, hb9⟩
          refine ⟨_, rfl, hHeld.trans (hb9.mono hHeld.size), fun hHeld => ?_⟩
          simp only [Act.put, List.setIfInBounds_toArray, List.set_cons_zero, List.set_cons_succ]
          refine held_take (v := .string (KB ++ ⟨#[32]⟩ ++ ⟨#[63]⟩ ++ NB)) 14 38 [true, true, true, true, true, true, true, true, true, true, true, true, true, true, true, false] rfl (by rfl) (by rfl) (by kernel_rfl) (by kernel_rfl) (by kernel_rfl) (by rfl) (fun _ _ _ h => h) (fun w' h => run_op_adds rfl rfl rfl hs3) hHeld ?_
          simp only [Act.put, List.setIfInBounds_toArray, List.set_cons_zero, List.set_cons_succ]
          refine held_take (v := ?_) 15 5 [true, true, true, true, true, true, true, true, true, true, true, true, true, true, true, true] rfl (by rfl) (by rfl) (by kernel_rfl) (by kernel_rfl) (by kernel_rfl) (by rfl) (fun _ _ _ h => h) ?_ hHeld ?_
          rotate_left
          · intro w hSw; go_simp <;> with_reducible rfl
          simp only [Act.put, List.setIfInBounds_toArray, List.set_cons_zero, List.set_cons_succ]
          refine held_done (by kernel_rfl) ?_
          have HB9 := Lib.hid (HB3.out.trans (hHeld.mono (HG0.out ▸ HB3.out.size)))
          have A9 := Lib.hid (A3.out.keep hHeld A3.out.lt)
          have ri : w9.rangeAt g0 7 (ints [p2, q2]) := A9.out.range 7 (ints [p2, q2]) rfl
          clear hb9
          go_upto_region 10 with (first
            | ((with_reducible refine ld_row ri id_row ?_ ?_ ?_); (· rfl); (· rfl); (simp only [Act.put, List.setIfInBounds_toArray, List.set_cons_zero, List.set_cons_succ]))
            | ((with_reducible refine cmp_row id_guard HNE.out ?_ ?_ ?_ ?_); (· rfl); (· rfl); (· rfl); (simp only [Act.put, List.setIfInBounds_toArray, List.set_cons_zero, List.set_cons_succ])))
          clear ri
          have rx : w9.rangeAt g0 0 (#[.int .i64 p, .int .i64 q, .int .i64 o, .bool u, .int .i64 k, .int .i64 a, .int .i64 n, .int .i64 p2, .int .i64 q2] : Array Value).toList := A9.out.range 0 _ rfl
          have TQ : RowT 54 ((#[.int .i64 p, .int .i64 q, .int .i64 o, .bool u, .int .i64 k, .int .i64 a, .int .i64 n, .int .i64 p2, .int .i64 q2] : Array Value).toList).length := RowQ
          have CQ1 := Lib.hid (CQ.out w9 HB9.out)
          go_wp2_with (first
            | ((with_reducible refine ld_row rx TQ ?_ ?_ ?_); (· rfl); (· rfl); (simp only [Act.put, List.setIfInBounds_toArray, List.set_cons_zero, List.set_cons_succ])))
          refine CQ1.out.mono ?_
          rintro e wz ⟨rfl, hb⟩
          have HBz := Lib.hid (HB9.out.trans (hb.mono (HG0.out ▸ HB9.out.size)))
          clear hb
          go_wp2_with fail
          go_ret
          have hge := HG0.out
          subst hge
          exact ⟨rfl, HBz.out⟩
        · generalize w3.drew = wD at *
          have hal := (Below.refl wD.heap.size wD).alloc (Nat.le_refl _) (.cells #[.int .i64 a, .int .i64 n] 2)
          have hsl := sl_lit wD 2 [a, n] (by simp)
          refine op_value (v := .slice (some ⟨wD.heap.size, 0, none⟩) 2 2) 36 [true, true, false, false, true, false, true, true, true, true, true, true, true, false, false, false] rfl (by rfl) (by rfl) (by rfl) (by go_simp <;> rfl) (hHeld.trans (hal.mono hHeld.size)) fun hHeld => ?_
          simp only [Act.put, List.setIfInBounds_toArray, List.set_cons_zero, List.set_cons_succ]
          refine held_call 2 26 [true, true, true, false, true, false, true, true, true, true, true, true, true, false, false, false] (by kernel_rfl) rfl (by rfl) (by rfl) (by rfl) (by go_simp) ((CI.out _).mono ?_)
          rintro e w4 ⟨rfl, hb4⟩
          refine ⟨_, rfl, hHeld.trans (hb4.mono hHeld.size), fun hHeld => ?_⟩
          simp only [Act.put, List.setIfInBounds_toArray, List.set_cons_zero, List.set_cons_succ]
          have hsl4 := hsl.keep hb4
          refine held_take (v := .string (KB ++ ⟨#[32]⟩)) 3 27 [true, true, true, true, true, false, true, true, true, true, true, true, true, false, false, false] rfl (by rfl) (by rfl) (by kernel_rfl) (by kernel_rfl) (by kernel_rfl) (by rfl) (fun _ _ _ h => h) (fun w' h => run_op_adds rfl rfl rfl hs1) hHeld ?_
          simp only [Act.put, List.setIfInBounds_toArray, List.set_cons_zero, List.set_cons_succ]
          refine held_take (v := .string (KB ++ ⟨#[32]⟩ ++ ⟨#[63]⟩)) 5 29 [true, true, true, true, true, true, true, true, true, true, true, true, true, false, false, false] rfl (by rfl) (by rfl) (by kernel_rfl) (by kernel_rfl) (by kernel_rfl) (by rfl) (fun _ _ _ h => h) (fun w' h => run_op_adds rfl rfl rfl hs2) hHeld ?_
          simp only [Act.put, List.setIfInBounds_toArray, List.set_cons_zero, List.set_cons_succ]
          refine held_call 13 37 [true, true, true, true, true, true, true, true, true, true, true, true, true, true, false, false] (by kernel_rfl) rfl (by rfl) (by rfl) (by rfl) (by go_simp) ((DM.out _ 2 _ hsl4).mono ?_)
          rintro e w9 ⟨rfl, hb9⟩
          refine ⟨_, rfl, hHeld.trans (hb9.mono hHeld.size), fun hHeld => ?_⟩
          simp only [Act.put, List.setIfInBounds_toArray, List.set_cons_zero, List.set_cons_succ]
          refine held_take (v := .string (KB ++ ⟨#[32]⟩ ++ ⟨#[63]⟩ ++ NB)) 14 38 [true, true, true, true, true, true, true, true, true, true, true, true, true, true, true, false] rfl (by rfl) (by rfl) (by kernel_rfl) (by kernel_rfl) (by kernel_rfl) (by rfl) (fun _ _ _ h => h) (fun w' h => run_op_adds rfl rfl rfl hs3) hHeld ?_
          simp only [Act.put, List.setIfInBounds_toArray, List.set_cons_zero, List.set_cons_succ]
          refine held_take (v := ?_) 15 5 [true, true, true, true, true, true, true, true, true, true, true, true, true, true, true, true] rfl (by rfl) (by rfl) (by kernel_rfl) (by kernel_rfl) (by kernel_rfl) (by rfl) (fun _ _ _ h => h) ?_ hHeld ?_
          rotate_left
          · intro w hSw; go_simp <;> with_reducible rfl
          simp only [Act.put, List.setIfInBounds_toArray, List.set_cons_zero, List.set_cons_succ]
          refine held_done (by kernel_rfl) ?_
          have HB9 := Lib.hid (HB3.out.trans (hHeld.mono (HG0.out ▸ HB3.out.size)))
          have A9 := Lib.hid (A3.out.keep hHeld A3.out.lt)
          have ri : w9.rangeAt g0 7 (ints [p2, q2]) := A9.out.range 7 (ints [p2, q2]) rfl
          clear hb9
          go_upto_region 10 with (first
            | ((with_reducible refine ld_row ri id_row ?_ ?_ ?_); (· rfl); (· rfl); (simp only [Act.put, List.setIfInBounds_toArray, List.set_cons_zero, List.set_cons_succ]))
            | ((with_reducible refine cmp_row id_guard HNE.out ?_ ?_ ?_ ?_); (· rfl); (· rfl); (· rfl); (simp only [Act.put, List.setIfInBounds_toArray, List.set_cons_zero, List.set_cons_succ])))
          clear ri
          have rx : w9.rangeAt g0 0 (#[.int .i64 p, .int .i64 q, .int .i64 o, .bool u, .int .i64 k, .int .i64 a, .int .i64 n, .int .i64 p2, .int .i64 q2] : Array Value).toList := A9.out.range 0 _ rfl
          have TQ : RowT 54 ((#[.int .i64 p, .int .i64 q, .int .i64 o, .bool u, .int .i64 k, .int .i64 a, .int .i64 n, .int .i64 p2, .int .i64 q2] : Array Value).toList).length := RowQ
          have CQ1 := Lib.hid (CQ.out w9 HB9.out)
          go_wp2_with (first
            | ((with_reducible refine ld_row rx TQ ?_ ?_ ?_); (· rfl); (· rfl); (simp only [Act.put, List.setIfInBounds_toArray, List.set_cons_zero, List.set_cons_succ])))
          refine CQ1.out.mono ?_
          rintro e wz ⟨rfl, hb⟩
          have HBz := Lib.hid (HB9.out.trans (hb.mono (HG0.out ▸ HB9.out.size)))
          clear hb
          go_wp2_with fail
          go_ret
          have hge := HG0.out
          subst hge
          exact ⟨rfl, HBz.out⟩

      · have HRQ : reqB p q o u k a n p2 q2 = keyB p q o u ++ ⟨#[32]⟩ ++ ⟨#[63]⟩ ++ numsB [a, n] ++ ⟨#[32]⟩ ++ idB p2 q2 := by
          have e : txtB k a n p2 q2 = ⟨#[63]⟩ ++ ⟨#[32]⟩ ++ itB a ++ ⟨#[32]⟩ ++ itB n ++ (⟨#[32]⟩ ++ idB p2 q2) := by unfold txtB; rw [hk]; exact if_neg hz
          unfold reqB
          rw [e, nums2, ← ByteArray.append_assoc, ← ByteArray.append_assoc, ← ByteArray.append_assoc]
        clear hk
        skip
        have HB := Lib.hid ((Below.refl w.heap.size w).alloc (Nat.le_refl _) (.cells #[.int .i64 p, .int .i64 q, .int .i64 o, .bool u, .int .i64 k, .int .i64 a, .int .i64 n, .int .i64 p2, .int .i64 q2] 54))
        have A : Hid (Blk (w.alloc (.cells #[.int .i64 p, .int .i64 q, .int .i64 o, .bool u, .int .i64 k, .int .i64 a, .int .i64 n, .int .i64 p2, .int .i64 q2] 54)) w.heap.size #[.int .i64 p, .int .i64 q, .int .i64 o, .bool u, .int .i64 k, .int .i64 a, .int .i64 n, .int .i64 p2, .int .i64 q2].toList 54) := Lib.hid (Blk.new w #[.int .i64 p, .int .i64 q, .int .i64 o, .bool u, .int .i64 k, .int .i64 a, .int .i64 n, .int .i64 p2, .int .i64 q2] 54)
        have HAL := Lib.hid (fun w' (hb : Below w.heap.size w w') => alive39 w' (hT.keep hb) (hBk.keep hb) (hS.keep hb))
        have CQ := Lib.hid (fun w' (hb : Below w.heap.size w w') => request_any p q o u k a n p2 q2 w' hf (hT.keep hb) (hW.keep hb))
        rw [HRQ] at CQ
        have CI := Lib.hid (fun w' => show Calls Tryd.prog 16 #[.agg ([.int .i64 p, .int .i64 q, .int .i64 o, .bool u] : List Value).toArray] w' _ from rkeytext_any p q o u w' hfp hfq hfo)
        have DM := Lib.hid (fun a' c' w' (h : Sl w' a' 2 1 (ints [a, n])) => decimals_any a' 2 c' [a, n] w' h (by decide) hf2)
        have CJ := Lib.hid (fun w' => ridtext_any p2 q2 w' hfp2 hfq2)
        have HNE := Lib.hid (id_ne hfp2 hfq2)
        rw [decide_eq_false hz] at HNE
        clear hT hW hS hBk hf hfp hfq hfo hf2 hfp2 hfq2 hz HRQ
        generalize keyB p q o u = KB at *
        generalize numsB [a, n] = NB at *
        generalize idB p2 q2 = IB at *
        go_enter Tryd.func5, Tryd.ntmps5
        go_upto_region 1 with fail
        generalize hg0 : w.heap.size = g0 at *
        have HG0 := Lib.hid hg0
        generalize (w.alloc (.cells #[.int .i64 p, .int .i64 q, .int .i64 o, .bool u, .int .i64 k, .int .i64 a, .int .i64 n, .int .i64 p2, .int .i64 q2] 54)) = w1 at *
        clear hg0
        have AL1 := Lib.hid (HAL.out w1 HB.out)
        go_wp2_with fail
        refine AL1.out.mono ?_
        rintro e w2 ⟨rfl, hb⟩
        have HB2 := Lib.hid (HB.out.trans (hb.mono (HG0.out ▸ HB.out.size)))
        have A2 := Lib.hid (A.out.keep hb A.out.lt)
        clear hb HB A AL1 HAL
        have HC := Lib.hid (words12 w2)
        have HB3 := Lib.hid (HB2.out.alloc (HG0.out ▸ HB2.out.size) (.cells #[.string ⟨#[63]⟩, .string ⟨#[114, 101, 115, 101, 114, 118, 101]⟩, .string ⟨#[97, 100, 106, 117, 115, 116]⟩, .string ⟨#[114, 101, 108, 101, 97, 115, 101]⟩, .string ⟨#[97, 117, 116, 104, 111, 114, 105, 122, 101]⟩, .string ⟨#[108, 97, 98, 101, 108]⟩, .string ⟨#[112, 105, 99, 107]⟩, .string ⟨#[109, 97, 105, 108]⟩, .string ⟨#[114, 101, 99, 101, 105, 112, 116]⟩, .string ⟨#[99, 97, 112, 116, 117, 114, 101]⟩, .string ⟨#[114, 101, 112, 97, 121]⟩, .string ⟨#[100, 105, 115, 112, 97, 116, 99, 104]⟩] 55))
        have A3 := Lib.hid (A2.out.alloc (.cells #[.string ⟨#[63]⟩, .string ⟨#[114, 101, 115, 101, 114, 118, 101]⟩, .string ⟨#[97, 100, 106, 117, 115, 116]⟩, .string ⟨#[114, 101, 108, 101, 97, 115, 101]⟩, .string ⟨#[97, 117, 116, 104, 111, 114, 105, 122, 101]⟩, .string ⟨#[108, 97, 98, 101, 108]⟩, .string ⟨#[112, 105, 99, 107]⟩, .string ⟨#[109, 97, 105, 108]⟩, .string ⟨#[114, 101, 99, 101, 105, 112, 116]⟩, .string ⟨#[99, 97, 112, 116, 117, 114, 101]⟩, .string ⟨#[114, 101, 112, 97, 121]⟩, .string ⟨#[100, 105, 115, 112, 97, 116, 99, 104]⟩] 55))
        go_upto_region 4 with fail
        clear HB2 A2
        generalize hg2 : w2.heap.size = g2 at *
        generalize w2.alloc (.cells #[.string ⟨#[63]⟩, .string ⟨#[114, 101, 115, 101, 114, 118, 101]⟩, .string ⟨#[97, 100, 106, 117, 115, 116]⟩, .string ⟨#[114, 101, 108, 101, 97, 115, 101]⟩, .string ⟨#[97, 117, 116, 104, 111, 114, 105, 122, 101]⟩, .string ⟨#[108, 97, 98, 101, 108]⟩, .string ⟨#[112, 105, 99, 107]⟩, .string ⟨#[109, 97, 105, 108]⟩, .string ⟨#[114, 101, 99, 101, 105, 112, 116]⟩, .string ⟨#[99, 97, 112, 116, 117, 114, 101]⟩, .string ⟨#[114, 101, 112, 97, 121]⟩, .string ⟨#[100, 105, 115, 112, 97, 116, 99, 104]⟩] 55) = w3 at *
        clear hg2
        have ck := A3.out.cell 4
        skip
        go_upto_region 7 with fail
        clear ck HC
        skip
        refine held_begin (fun w' => Below w3.heap.size w3 w') 16 [false, false, false, false, false, false, false, false, false, false, false, false, false, false, false, false] (by kernel_rfl) rfl (by rfl) ?_
        have hHeld : Below w3.heap.size w3 w3.drew := (Below.refl _ _).drew
        refine held_take (v := ?_) 0 24 [true, false, false, false, false, false, false, false, false, false, false, false, false, false, false, false] rfl (by rfl) (by rfl) (by kernel_rfl) (by kernel_rfl) (by kernel_rfl) (by rfl) (fun _ _ _ h => h) ?_ hHeld ?_
        rotate_left
        · intro w hSw; go_simp <;> with_reducible rfl
        simp only [Act.put, List.setIfInBounds_toArray, List.set_cons_zero, List.set_cons_succ]
        refine held_take (v := .agg ([.int .i64 p, .int .i64 q, .int .i64 o, .bool u] : List Value).toArray) 1 25 [true, true, false, false, false, false, false, false, false, false, false, false, false, false, false, false] rfl (by rfl) (by rfl) (by kernel_rfl) (by kernel_rfl) (by kernel_rfl) (by rfl) (fun _ _ _ h => h) (fun w' h => run_op_load rfl rfl ((A3.out.keep h A3.out.lt).range 0 [.int .i64 p, .int .i64 q, .int .i64 o, .bool u] rfl) Tryd.underlying50 rfl key_sz) hHeld ?_
        simp only [Act.put, List.setIfInBounds_toArray, List.set_cons_zero, List.set_cons_succ]
        refine held_take (v := ?_) 4 28 [true, true, false, false, true, false, false, false, false, false, false, false, false, false, false, false] rfl (by rfl) (by rfl) (by kernel_rfl) (by kernel_rfl) (by kernel_rfl) (by rfl) (fun _ _ _ h => h) ?_ hHeld ?_
        rotate_left
        · intro w hSw; go_simp <;> with_reducible rfl
        simp only [Act.put, List.setIfInBounds_toArray, List.set_cons_zero, List.set_cons_succ]
        refine held_take (v := ?_) 6 30 [true, true, false, false, true, false, true, false, false, false, false, false, false, false, false, false] rfl (by rfl) (by rfl) (by kernel_rfl) (by kernel_rfl) (by kernel_rfl) (by rfl) (fun _ _ _ h => h) ?_ hHeld ?_
        rotate_left
        · intro w hSw; go_simp <;> with_reducible rfl
        simp only [Act.put, List.setIfInBounds_toArray, List.set_cons_zero, List.set_cons_succ]
        refine held_take (v := ?_) 7 31 [true, true, false, false, true, false, true, true, false, false, false, false, false, false, false, false] rfl (by rfl) (by rfl) (by kernel_rfl) (by kernel_rfl) (by kernel_rfl) (by rfl) (fun _ _ _ h => h) ?_ hHeld ?_
        rotate_left
        · intro w hSw; go_simp <;> with_reducible rfl
        simp only [Act.put, List.setIfInBounds_toArray, List.set_cons_zero, List.set_cons_succ]
        refine held_take (v := .int .i64 a) 8 32 [true, true, false, false, true, false, true, true, true, false, false, false, false, false, false, false] rfl (by rfl) (by rfl) (by kernel_rfl) (by kernel_rfl) (by kernel_rfl) (by rfl) (fun _ _ _ h => h) (fun w' h => run_op_one rfl rfl Tryd.underlying3 rfl ((A3.out.keep h A3.out.lt).cell 5)) hHeld ?_
        simp only [Act.put, List.setIfInBounds_toArray, List.set_cons_zero, List.set_cons_succ]
        refine held_take (v := ?_) 9 33 [true, true, false, false, true, false, true, true, true, true, false, false, false, false, false, false] rfl (by rfl) (by rfl) (by kernel_rfl) (by kernel_rfl) (by kernel_rfl) (by rfl) (fun _ _ _ h => h) ?_ hHeld ?_
        rotate_left
        · intro w hSw; go_simp <;> with_reducible rfl
        simp only [Act.put, List.setIfInBounds_toArray, List.set_cons_zero, List.set_cons_succ]
        refine held_take (v := ?_) 10 34 [true, true, false, false, true, false, true, true, true, true, true, false, false, false, false, false] rfl (by rfl) (by rfl) (by kernel_rfl) (by kernel_rfl) (by kernel_rfl) (by rfl) (fun _ _ _ h => h) ?_ hHeld ?_
        rotate_left
        · intro w hSw; go_simp <;> with_reducible rfl
        simp only [Act.put, List.setIfInBounds_toArray, List.set_cons_zero, List.set_cons_succ]
        refine held_take (v := .int .i64 n) 11 35 [true, true, false, false, true, false, true, true, true, true, true, true, false, false, false, false] rfl (by rfl) (by rfl) (by kernel_rfl) (by kernel_rfl) (by kernel_rfl) (by rfl) (fun _ _ _ h => h) (fun w' h => run_op_one rfl rfl Tryd.underlying2 rfl ((A3.out.keep h A3.out.lt).cell 6)) hHeld ?_
        simp only [Act.put, List.setIfInBounds_toArray, List.set_cons_zero, List.set_cons_succ]
        refine held_two 2 12 (by kernel_rfl) ?_ ?_
        · refine op_call 26 [true, true, true, false, true, false, true, true, true, true, true, true, false, false, false, false] rfl (by rfl) (by rfl) (by rfl) (by go_simp) ((CI.out _).mono ?_)
          rintro e w4 ⟨rfl, hb4⟩
          refine ⟨_, rfl, hHeld.trans (hb4.mono hHeld.size), fun hHeld => ?_⟩
          simp only [Act.put, List.setIfInBounds_toArray, List.set_cons_zero, List.set_cons_succ]
          have hal := (Below.refl w4.heap.size w4).alloc (Nat.le_refl _) (.cells #[.int .i64 a, .int .i64 n] 2)
          have hsl := sl_lit w4 2 [a, n] (by simp)
          refine held_take (v := .string (KB ++ ⟨#[32]⟩)) 3 27 [true, true, true, true, true, false, true, true, true, true, true, true, false, false, false, false] rfl (by rfl) (by rfl) (by kernel_rfl) (by kernel_rfl) (by kernel_rfl) (by rfl) (fun _ _ _ h => h) (fun w' h => run_op_adds rfl rfl rfl hs1) hHeld ?_
          simp only [Act.put, List.setIfInBounds_toArray, List.set_cons_zero, List.set_cons_succ]
          refine held_take (v := .string (KB ++ ⟨#[32]⟩ ++ ⟨#[63]⟩)) 5 29 [true, true, true, true, true, true, true, true, true, true, true, true, false, false, false, false] rfl (by rfl) (by rfl) (by kernel_rfl) (by kernel_rfl) (by kernel_rfl) (by rfl) (fun _ _ _ h => h) (fun w' h => run_op_adds rfl rfl rfl hs2) hHeld ?_
          simp only [Act.put, List.setIfInBounds_toArray, List.set_cons_zero, List.set_cons_succ]
          refine held_one 12 (by kernel_rfl) ?_
          refine op_value (v := .slice (some ⟨w4.heap.size, 0, none⟩) 2 2) 36 [true, true, true, true, true, true, true, true, true, true, true, true, true, false, false, false] rfl (by rfl) (by rfl) (by rfl) (by go_simp <;> rfl) (hHeld.trans (hal.mono hHeld.size)) fun hHeld => ?_
          simp only [Act.put, List.setIfInBounds_toArray, List.set_cons_zero, List.set_cons_succ]
          refine held_call 13 37 [true, true, true, true, true, true, true, true, true, true, true, true, true, true, false, false] (by kernel_rfl) rfl (by rfl) (by rfl) (by rfl) (by go_simp) ((DM.out _ 2 _ hsl).mono ?_)
          rintro e w9 ⟨rfl, hb9⟩
          refine ⟨_, rfl, hHeld.trans (hb9.mono hHeld.size), fun hHeld => ?_⟩
          simp only [Act.put, List.setIfInBounds_toArray, List.set_cons_zero, List.set_cons_succ]
          refine held_take (v := .string (KB ++ ⟨#[32]⟩ ++ ⟨#[63]⟩ ++ NB)) 14 38 [true, true, true, true, true, true, true, true, true, true, true, true, true, true, true, false] rfl (by rfl) (by rfl) (by kernel_rfl) (by kernel_rfl) (by kernel_rfl) (by rfl) (fun _ _ _ h => h) (fun w' h => run_op_adds rfl rfl rfl hs3) hHeld ?_
          simp only [Act.put, List.setIfInBounds_toArray, List.set_cons_zero, List.set_cons_succ]
          refine held_take (v := ?_) 15 5 [true, true, true, true, true, true, true, true, true, true, true, true, true, true, true, true] rfl (by rfl) (by rfl) (by kernel_rfl) (by kernel_rfl) (by kernel_rfl) (by rfl) (fun _ _ _ h => h) ?_ hHeld ?_
          rotate_left
          · intro w hSw; go_simp <;> with_reducible rfl
          simp only [Act.put, List.setIfInBounds_toArray, List.set_cons_zero, List.set_cons_succ]
          refine held_done (by kernel_rfl) ?_
          have HB9 := Lib.hid (HB3.out.trans (hHeld.mono (HG0.out ▸ HB3.out.size)))
          have A9 := Lib.hid (A3.out.keep hHeld A3.out.lt)
          have ri : w9.rangeAt g0 7 (ints [p2, q2]) := A9.out.range 7 (ints [p2, q2]) rfl
          clear hb9
          go_wp2_with (first
            | ((with_reducible refine ld_row ri id_row ?_ ?_ ?_); (· rfl); (· rfl); (simp only [Act.put, List.setIfInBounds_toArray, List.set_cons_zero, List.set_cons_succ]))
            | ((with_reducible refine cmp_row id_guard HNE.out ?_ ?_ ?_ ?_); (· rfl); (· rfl); (· rfl); (simp only [Act.put, List.setIfInBounds_toArray, List.set_cons_zero, List.set_cons_succ])))
          refine (CJ.out _).mono ?_
          rintro e wy ⟨rfl, hb⟩
          have HBy := Lib.hid (HB9.out.trans (hb.mono (HG0.out ▸ HB9.out.size)))
          have Ay := Lib.hid (A9.out.keep hb A9.out.lt)
          clear hb ri
          go_upto_region 10 with fail
          have rx : wy.rangeAt g0 0 (#[.int .i64 p, .int .i64 q, .int .i64 o, .bool u, .int .i64 k, .int .i64 a, .int .i64 n, .int .i64 p2, .int .i64 q2] : Array Value).toList := Ay.out.range 0 _ rfl
          have TQ : RowT 54 ((#[.int .i64 p, .int .i64 q, .int .i64 o, .bool u, .int .i64 k, .int .i64 a, .int .i64 n, .int .i64 p2, .int .i64 q2] : Array Value).toList).length := RowQ
          have CQ1 := Lib.hid (CQ.out wy HBy.out)
          go_wp2_with (first
            | ((with_reducible refine ld_row rx TQ ?_ ?_ ?_); (· rfl); (· rfl); (simp only [Act.put, List.setIfInBounds_toArray, List.set_cons_zero, List.set_cons_succ])))
          refine CQ1.out.mono ?_
          rintro e wz ⟨rfl, hb⟩
          have HBz := Lib.hid (HBy.out.trans (hb.mono (HG0.out ▸ HBy.out.size)))
          clear hb
          go_wp2_with fail
          go_ret
          have hge := HG0.out
          subst hge
          exact ⟨rfl, HBz.out⟩
        · generalize w3.drew = wD at *
          have hal := (Below.refl wD.heap.size wD).alloc (Nat.le_refl _) (.cells #[.int .i64 a, .int .i64 n] 2)
          have hsl := sl_lit wD 2 [a, n] (by simp)
          refine op_value (v := .slice (some ⟨wD.heap.size, 0, none⟩) 2 2) 36 [true, true, false, false, true, false, true, true, true, true, true, true, true, false, false, false] rfl (by rfl) (by rfl) (by rfl) (by go_simp <;> rfl) (hHeld.trans (hal.mono hHeld.size)) fun hHeld => ?_
          simp only [Act.put, List.setIfInBounds_toArray, List.set_cons_zero, List.set_cons_succ]
          refine held_call 2 26 [true, true, true, false, true, false, true, true, true, true, true, true, true, false, false, false] (by kernel_rfl) rfl (by rfl) (by rfl) (by rfl) (by go_simp) ((CI.out _).mono ?_)
          rintro e w4 ⟨rfl, hb4⟩
          refine ⟨_, rfl, hHeld.trans (hb4.mono hHeld.size), fun hHeld => ?_⟩
          simp only [Act.put, List.setIfInBounds_toArray, List.set_cons_zero, List.set_cons_succ]
          have hsl4 := hsl.keep hb4
          refine held_take (v := .string (KB ++ ⟨#[32]⟩)) 3 27 [true, true, true, true, true, false, true, true, true, true, true, true, true, false, false, false] rfl (by rfl) (by rfl) (by kernel_rfl) (by kernel_rfl) (by kernel_rfl) (by rfl) (fun _ _ _ h => h) (fun w' h => run_op_adds rfl rfl rfl hs1) hHeld ?_
          simp only [Act.put, List.setIfInBounds_toArray, List.set_cons_zero, List.set_cons_succ]
          refine held_take (v := .string (KB ++ ⟨#[32]⟩ ++ ⟨#[63]⟩)) 5 29 [true, true, true, true, true, true, true, true, true, true, true, true, true, false, false, false] rfl (by rfl) (by rfl) (by kernel_rfl) (by kernel_rfl) (by kernel_rfl) (by rfl) (fun _ _ _ h => h) (fun w' h => run_op_adds rfl rfl rfl hs2) hHeld ?_
          simp only [Act.put, List.setIfInBounds_toArray, List.set_cons_zero, List.set_cons_succ]
          refine held_call 13 37 [true, true, true, true, true, true, true, true, true, true, true, true, true, true, false, false] (by kernel_rfl) rfl (by rfl) (by rfl) (by rfl) (by go_simp) ((DM.out _ 2 _ hsl4).mono ?_)
          rintro e w9 ⟨rfl, hb9⟩
          refine ⟨_, rfl, hHeld.trans (hb9.mono hHeld.size), fun hHeld => ?_⟩
          simp only [Act.put, List.setIfInBounds_toArray, List.set_cons_zero, List.set_cons_succ]
          refine held_take (v := .string (KB ++ ⟨#[32]⟩ ++ ⟨#[63]⟩ ++ NB)) 14 38 [true, true, true, true, true, true, true, true, true, true, true, true, true, true, true, false] rfl (by rfl) (by rfl) (by kernel_rfl) (by kernel_rfl) (by kernel_rfl) (by rfl) (fun _ _ _ h => h) (fun w' h => run_op_adds rfl rfl rfl hs3) hHeld ?_
          simp only [Act.put, List.setIfInBounds_toArray, List.set_cons_zero, List.set_cons_succ]
          refine held_take (v := ?_) 15 5 [true, true, true, true, true, true, true, true, true, true, true, true, true, true, true, true] rfl (by rfl) (by rfl) (by kernel_rfl) (by kernel_rfl) (by kernel_rfl) (by rfl) (fun _ _ _ h => h) ?_ hHeld ?_
          rotate_left
          · intro w hSw; go_simp <;> with_reducible rfl
          simp only [Act.put, List.setIfInBounds_toArray, List.set_cons_zero, List.set_cons_succ]
          refine held_done (by kernel_rfl) ?_
          have HB9 := Lib.hid (HB3.out.trans (hHeld.mono (HG0.out ▸ HB3.out.size)))
          have A9 := Lib.hid (A3.out.keep hHeld A3.out.lt)
          have ri : w9.rangeAt g0 7 (ints [p2, q2]) := A9.out.range 7 (ints [p2, q2]) rfl
          clear hb9
          go_wp2_with (first
            | ((with_reducible refine ld_row ri id_row ?_ ?_ ?_); (· rfl); (· rfl); (simp only [Act.put, List.setIfInBounds_toArray, List.set_cons_zero, List.set_cons_succ]))
            | ((with_reducible refine cmp_row id_guard HNE.out ?_ ?_ ?_ ?_); (· rfl); (· rfl); (· rfl); (simp only [Act.put, List.setIfInBounds_toArray, List.set_cons_zero, List.set_cons_succ])))
          refine (CJ.out _).mono ?_
          rintro e wy ⟨rfl, hb⟩
          have HBy := Lib.hid (HB9.out.trans (hb.mono (HG0.out ▸ HB9.out.size)))
          have Ay := Lib.hid (A9.out.keep hb A9.out.lt)
          clear hb ri
          go_upto_region 10 with fail
          have rx : wy.rangeAt g0 0 (#[.int .i64 p, .int .i64 q, .int .i64 o, .bool u, .int .i64 k, .int .i64 a, .int .i64 n, .int .i64 p2, .int .i64 q2] : Array Value).toList := Ay.out.range 0 _ rfl
          have TQ : RowT 54 ((#[.int .i64 p, .int .i64 q, .int .i64 o, .bool u, .int .i64 k, .int .i64 a, .int .i64 n, .int .i64 p2, .int .i64 q2] : Array Value).toList).length := RowQ
          have CQ1 := Lib.hid (CQ.out wy HBy.out)
          go_wp2_with (first
            | ((with_reducible refine ld_row rx TQ ?_ ?_ ?_); (· rfl); (· rfl); (simp only [Act.put, List.setIfInBounds_toArray, List.set_cons_zero, List.set_cons_succ])))
          refine CQ1.out.mono ?_
          rintro e wz ⟨rfl, hb⟩
          have HBz := Lib.hid (HBy.out.trans (hb.mono (HG0.out ▸ HBy.out.size)))
          clear hb
          go_wp2_with fail
          go_ret
          have hge := HG0.out
          subst hge
          exact ⟨rfl, HBz.out⟩


  · have hkk := (isKnd_iff k).1 hk
    obtain ⟨kk, hkn⟩ : ∃ kk : Nat, (kk : Int) = k := ⟨k.toNat, by omega⟩
    have s5 := wordB_size kk
    have HKK : Hid (kk < 12) := Lib.hid (by omega)
    have hk0 : (0 : Int) ≤ kk := by omega
    have hk1 : (kk : Int) < 12 := by omega
    have hk2 : (1 : Int) ≤ kk := by omega
    have hk3 : (kk : Int) ≤ 11 := by omega
    have hs2 : (keyB p q o u ++ ⟨#[32]⟩).size + (wordB kk).size ≤ 100000 := by omega
    have hs3 : (keyB p q o u ++ ⟨#[32]⟩ ++ wordB kk).size + (numsB [a, n]).size ≤ 100000 := by rw [ByteArray.size_append]; omega
    clear hkk
    by_cases hz : p2 = 0 ∧ q2 = 0
    · have HRQ : reqB p q o u k a n p2 q2 = keyB p q o u ++ ⟨#[32]⟩ ++ wordB kk ++ numsB [a, n] := by
        have e : txtB k a n p2 q2 = wordB kk ++ ⟨#[32]⟩ ++ itB a ++ ⟨#[32]⟩ ++ itB n := by unfold txtB; rw [hk, show k.toNat = kk by omega]; exact if_pos hz
        unfold reqB
        rw [e, nums2, ← ByteArray.append_assoc]
      clear hk
      subst hkn
      have HB := Lib.hid ((Below.refl w.heap.size w).alloc (Nat.le_refl _) (.cells #[.int .i64 p, .int .i64 q, .int .i64 o, .bool u, .int .i64 (kk : Int), .int .i64 a, .int .i64 n, .int .i64 p2, .int .i64 q2] 54))
      have A : Hid (Blk (w.alloc (.cells #[.int .i64 p, .int .i64 q, .int .i64 o, .bool u, .int .i64 (kk : Int), .int .i64 a, .int .i64 n, .int .i64 p2, .int .i64 q2] 54)) w.heap.size #[.int .i64 p, .int .i64 q, .int .i64 o, .bool u, .int .i64 (kk : Int), .int .i64 a, .int .i64 n, .int .i64 p2, .int .i64 q2].toList 54) := Lib.hid (Blk.new w #[.int .i64 p, .int .i64 q, .int .i64 o, .bool u, .int .i64 (kk : Int), .int .i64 a, .int .i64 n, .int .i64 p2, .int .i64 q2] 54)
      have HAL := Lib.hid (fun w' (hb : Below w.heap.size w w') => alive39 w' (hT.keep hb) (hBk.keep hb) (hS.keep hb))
      have CQ := Lib.hid (fun w' (hb : Below w.heap.size w w') => request_any p q o u (kk : Int) a n p2 q2 w' hf (hT.keep hb) (hW.keep hb))
      rw [HRQ] at CQ
      have CI := Lib.hid (fun w' => show Calls Tryd.prog 16 #[.agg ([.int .i64 p, .int .i64 q, .int .i64 o, .bool u] : List Value).toArray] w' _ from rkeytext_any p q o u w' hfp hfq hfo)
      have DM := Lib.hid (fun a' c' w' (h : Sl w' a' 2 1 (ints [a, n])) => decimals_any a' 2 c' [a, n] w' h (by decide) hf2)
      have CJ := Lib.hid (fun w' => ridtext_any p2 q2 w' hfp2 hfq2)
      have HNE := Lib.hid (id_ne hfp2 hfq2)
      rw [decide_eq_true hz] at HNE
      clear hT hW hS hBk hf hfp hfq hfo hf2 hfp2 hfq2 hz HRQ
      generalize keyB p q o u = KB at *
      generalize numsB [a, n] = NB at *
      generalize idB p2 q2 = IB at *
      go_enter Tryd.func5, Tryd.ntmps5
      go_upto_region 1 with fail
      generalize hg0 : w.heap.size = g0 at *
      have HG0 := Lib.hid hg0
      generalize (w.alloc (.cells #[.int .i64 p, .int .i64 q, .int .i64 o, .bool u, .int .i64 (kk : Int), .int .i64 a, .int .i64 n, .int .i64 p2, .int .i64 q2] 54)) = w1 at *
      clear hg0
      have AL1 := Lib.hid (HAL.out w1 HB.out)
      go_wp2_with fail
      refine AL1.out.mono ?_
      rintro e w2 ⟨rfl, hb⟩
      have HB2 := Lib.hid (HB.out.trans (hb.mono (HG0.out ▸ HB.out.size)))
      have A2 := Lib.hid (A.out.keep hb A.out.lt)
      clear hb HB A AL1 HAL
      have HC := Lib.hid (words12 w2)
      have HB3 := Lib.hid (HB2.out.alloc (HG0.out ▸ HB2.out.size) (.cells #[.string ⟨#[63]⟩, .string ⟨#[114, 101, 115, 101, 114, 118, 101]⟩, .string ⟨#[97, 100, 106, 117, 115, 116]⟩, .string ⟨#[114, 101, 108, 101, 97, 115, 101]⟩, .string ⟨#[97, 117, 116, 104, 111, 114, 105, 122, 101]⟩, .string ⟨#[108, 97, 98, 101, 108]⟩, .string ⟨#[112, 105, 99, 107]⟩, .string ⟨#[109, 97, 105, 108]⟩, .string ⟨#[114, 101, 99, 101, 105, 112, 116]⟩, .string ⟨#[99, 97, 112, 116, 117, 114, 101]⟩, .string ⟨#[114, 101, 112, 97, 121]⟩, .string ⟨#[100, 105, 115, 112, 97, 116, 99, 104]⟩] 55))
      have A3 := Lib.hid (A2.out.alloc (.cells #[.string ⟨#[63]⟩, .string ⟨#[114, 101, 115, 101, 114, 118, 101]⟩, .string ⟨#[97, 100, 106, 117, 115, 116]⟩, .string ⟨#[114, 101, 108, 101, 97, 115, 101]⟩, .string ⟨#[97, 117, 116, 104, 111, 114, 105, 122, 101]⟩, .string ⟨#[108, 97, 98, 101, 108]⟩, .string ⟨#[112, 105, 99, 107]⟩, .string ⟨#[109, 97, 105, 108]⟩, .string ⟨#[114, 101, 99, 101, 105, 112, 116]⟩, .string ⟨#[99, 97, 112, 116, 117, 114, 101]⟩, .string ⟨#[114, 101, 112, 97, 121]⟩, .string ⟨#[100, 105, 115, 112, 97, 116, 99, 104]⟩] 55))
      go_upto_region 4 with fail
      clear HB2 A2
      generalize hg2 : w2.heap.size = g2 at *
      generalize w2.alloc (.cells #[.string ⟨#[63]⟩, .string ⟨#[114, 101, 115, 101, 114, 118, 101]⟩, .string ⟨#[97, 100, 106, 117, 115, 116]⟩, .string ⟨#[114, 101, 108, 101, 97, 115, 101]⟩, .string ⟨#[97, 117, 116, 104, 111, 114, 105, 122, 101]⟩, .string ⟨#[108, 97, 98, 101, 108]⟩, .string ⟨#[112, 105, 99, 107]⟩, .string ⟨#[109, 97, 105, 108]⟩, .string ⟨#[114, 101, 99, 101, 105, 112, 116]⟩, .string ⟨#[99, 97, 112, 116, 117, 114, 101]⟩, .string ⟨#[114, 101, 112, 97, 121]⟩, .string ⟨#[100, 105, 115, 112, 97, 116, 99, 104]⟩] 55) = w3 at *
      clear hg2
      have ck := A3.out.cell 4
      have cw := HC.out kk HKK.out
      go_upto_region 7 with fail
      clear ck HC cw
      generalize wordB kk = WB at *
      refine held_begin (fun w' => Below w3.heap.size w3 w') 16 [false, false, false, false, false, false, false, false, false, false, false, false, false, false, false, false] (by kernel_rfl) rfl (by rfl) ?_
      have hHeld : Below w3.heap.size w3 w3.drew := (Below.refl _ _).drew
      refine held_take (v := ?_) 0 24 [true, false, false, false, false, false, false, false, false, false, false, false, false, false, false, false] rfl (by rfl) (by rfl) (by kernel_rfl) (by kernel_rfl) (by kernel_rfl) (by rfl) (fun _ _ _ h => h) ?_ hHeld ?_
      rotate_left
      · intro w hSw; go_simp <;> with_reducible rfl
      simp only [Act.put, List.setIfInBounds_toArray, List.set_cons_zero, List.set_cons_succ]
      refine held_take (v := .agg ([.int .i64 p, .int .i64 q, .int .i64 o, .bool u] : List Value).toArray) 1 25 [true, true, false, false, false, false, false, false, false, false, false, false, false, false, false, false] rfl (by rfl) (by rfl) (by kernel_rfl) (by kernel_rfl) (by kernel_rfl) (by rfl) (fun _ _ _ h => h) (fun w' h => run_op_load rfl rfl ((A3.out.keep h A3.out.lt).range 0 [.int .i64 p, .int .i64 q, .int .i64 o, .bool u] rfl) Tryd.underlying50 rfl key_sz) hHeld ?_
      simp only [Act.put, List.setIfInBounds_toArray, List.set_cons_zero, List.set_cons_succ]
      refine held_take (v := ?_) 4 28 [true, true, false, false, true, false, false, false, false, false, false, false, false, false, false, false] rfl (by rfl) (by rfl) (by kernel_rfl) (by kernel_rfl) (by kernel_rfl) (by rfl) (fun _ _ _ h => h) ?_ hHeld ?_
      rotate_left
      · intro w hSw; go_simp <;> with_reducible rfl
      simp only [Act.put, List.setIfInBounds_toArray, List.set_cons_zero, List.set_cons_succ]
      refine held_take (v := ?_) 6 30 [true, true, false, false, true, false, true, false, false, false, false, false, false, false, false, false] rfl (by rfl) (by rfl) (by kernel_rfl) (by kernel_rfl) (by kernel_rfl) (by rfl) (fun _ _ _ h => h) ?_ hHeld ?_
      rotate_left
      · intro w hSw; go_simp <;> with_reducible rfl
      simp only [Act.put, List.setIfInBounds_toArray, List.set_cons_zero, List.set_cons_succ]
      refine held_take (v := ?_) 7 31 [true, true, false, false, true, false, true, true, false, false, false, false, false, false, false, false] rfl (by rfl) (by rfl) (by kernel_rfl) (by kernel_rfl) (by kernel_rfl) (by rfl) (fun _ _ _ h => h) ?_ hHeld ?_
      rotate_left
      · intro w hSw; go_simp <;> with_reducible rfl
      simp only [Act.put, List.setIfInBounds_toArray, List.set_cons_zero, List.set_cons_succ]
      refine held_take (v := .int .i64 a) 8 32 [true, true, false, false, true, false, true, true, true, false, false, false, false, false, false, false] rfl (by rfl) (by rfl) (by kernel_rfl) (by kernel_rfl) (by kernel_rfl) (by rfl) (fun _ _ _ h => h) (fun w' h => run_op_one rfl rfl Tryd.underlying3 rfl ((A3.out.keep h A3.out.lt).cell 5)) hHeld ?_
      simp only [Act.put, List.setIfInBounds_toArray, List.set_cons_zero, List.set_cons_succ]
      refine held_take (v := ?_) 9 33 [true, true, false, false, true, false, true, true, true, true, false, false, false, false, false, false] rfl (by rfl) (by rfl) (by kernel_rfl) (by kernel_rfl) (by kernel_rfl) (by rfl) (fun _ _ _ h => h) ?_ hHeld ?_
      rotate_left
      · intro w hSw; go_simp <;> with_reducible rfl
      simp only [Act.put, List.setIfInBounds_toArray, List.set_cons_zero, List.set_cons_succ]
      refine held_take (v := ?_) 10 34 [true, true, false, false, true, false, true, true, true, true, true, false, false, false, false, false] rfl (by rfl) (by rfl) (by kernel_rfl) (by kernel_rfl) (by kernel_rfl) (by rfl) (fun _ _ _ h => h) ?_ hHeld ?_
      rotate_left
      · intro w hSw; go_simp <;> with_reducible rfl
      simp only [Act.put, List.setIfInBounds_toArray, List.set_cons_zero, List.set_cons_succ]
      refine held_take (v := .int .i64 n) 11 35 [true, true, false, false, true, false, true, true, true, true, true, true, false, false, false, false] rfl (by rfl) (by rfl) (by kernel_rfl) (by kernel_rfl) (by kernel_rfl) (by rfl) (fun _ _ _ h => h) (fun w' h => run_op_one rfl rfl Tryd.underlying2 rfl ((A3.out.keep h A3.out.lt).cell 6)) hHeld ?_
      simp only [Act.put, List.setIfInBounds_toArray, List.set_cons_zero, List.set_cons_succ]
      refine held_two 2 12 (by kernel_rfl) ?_ ?_
      · refine op_call 26 [true, true, true, false, true, false, true, true, true, true, true, true, false, false, false, false] rfl (by rfl) (by rfl) (by rfl) (by go_simp) ((CI.out _).mono ?_)
        rintro e w4 ⟨rfl, hb4⟩
        refine ⟨_, rfl, hHeld.trans (hb4.mono hHeld.size), fun hHeld => ?_⟩
        simp only [Act.put, List.setIfInBounds_toArray, List.set_cons_zero, List.set_cons_succ]
        have hal := (Below.refl w4.heap.size w4).alloc (Nat.le_refl _) (.cells #[.int .i64 a, .int .i64 n] 2)
        have hsl := sl_lit w4 2 [a, n] (by simp)
        refine held_take (v := .string (KB ++ ⟨#[32]⟩)) 3 27 [true, true, true, true, true, false, true, true, true, true, true, true, false, false, false, false] rfl (by rfl) (by rfl) (by kernel_rfl) (by kernel_rfl) (by kernel_rfl) (by rfl) (fun _ _ _ h => h) (fun w' h => run_op_adds rfl rfl rfl hs1) hHeld ?_
        simp only [Act.put, List.setIfInBounds_toArray, List.set_cons_zero, List.set_cons_succ]
        refine held_take (v := .string (KB ++ ⟨#[32]⟩ ++ WB)) 5 29 [true, true, true, true, true, true, true, true, true, true, true, true, false, false, false, false] rfl (by rfl) (by rfl) (by kernel_rfl) (by kernel_rfl) (by kernel_rfl) (by rfl) (fun _ _ _ h => h) (fun w' h => run_op_adds rfl rfl rfl hs2) hHeld ?_
        simp only [Act.put, List.setIfInBounds_toArray, List.set_cons_zero, List.set_cons_succ]
        refine held_one 12 (by kernel_rfl) ?_
        refine op_value (v := .slice (some ⟨w4.heap.size, 0, none⟩) 2 2) 36 [true, true, true, true, true, true, true, true, true, true, true, true, true, false, false, false] rfl (by rfl) (by rfl) (by rfl) (by go_simp <;> rfl) (hHeld.trans (hal.mono hHeld.size)) fun hHeld => ?_
        simp only [Act.put, List.setIfInBounds_toArray, List.set_cons_zero, List.set_cons_succ]
        refine held_call 13 37 [true, true, true, true, true, true, true, true, true, true, true, true, true, true, false, false] (by kernel_rfl) rfl (by rfl) (by rfl) (by rfl) (by go_simp) ((DM.out _ 2 _ hsl).mono ?_)
        rintro e w9 ⟨rfl, hb9⟩
        refine ⟨_, rfl, hHeld.trans (hb9.mono hHeld.size), fun hHeld => ?_⟩
        simp only [Act.put, List.setIfInBounds_toArray, List.set_cons_zero, List.set_cons_succ]
        refine held_take (v := .string (KB ++ ⟨#[32]⟩ ++ WB ++ NB)) 14 38 [true, true, true, true, true, true, true, true, true, true, true, true, true, true, true, false] rfl (by rfl) (by rfl) (by kernel_rfl) (by kernel_rfl) (by kernel_rfl) (by rfl) (fun _ _ _ h => h) (fun w' h => run_op_adds rfl rfl rfl hs3) hHeld ?_
        simp only [Act.put, List.setIfInBounds_toArray, List.set_cons_zero, List.set_cons_succ]
        refine held_take (v := ?_) 15 5 [true, true, true, true, true, true, true, true, true, true, true, true, true, true, true, true] rfl (by rfl) (by rfl) (by kernel_rfl) (by kernel_rfl) (by kernel_rfl) (by rfl) (fun _ _ _ h => h) ?_ hHeld ?_
        rotate_left
        · intro w hSw; go_simp <;> with_reducible rfl
        simp only [Act.put, List.setIfInBounds_toArray, List.set_cons_zero, List.set_cons_succ]
        refine held_done (by kernel_rfl) ?_
        have HB9 := Lib.hid (HB3.out.trans (hHeld.mono (HG0.out ▸ HB3.out.size)))
        have A9 := Lib.hid (A3.out.keep hHeld A3.out.lt)
        have ri : w9.rangeAt g0 7 (ints [p2, q2]) := A9.out.range 7 (ints [p2, q2]) rfl
        clear hb9
        go_upto_region 10 with (first
          | ((with_reducible refine ld_row ri id_row ?_ ?_ ?_); (· rfl); (· rfl); (simp only [Act.put, List.setIfInBounds_toArray, List.set_cons_zero, List.set_cons_succ]))
          | ((with_reducible refine cmp_row id_guard HNE.out ?_ ?_ ?_ ?_); (· rfl); (· rfl); (· rfl); (simp only [Act.put, List.setIfInBounds_toArray, List.set_cons_zero, List.set_cons_succ])))
        clear ri
        have rx : w9.rangeAt g0 0 (#[.int .i64 p, .int .i64 q, .int .i64 o, .bool u, .int .i64 (kk : Int), .int .i64 a, .int .i64 n, .int .i64 p2, .int .i64 q2] : Array Value).toList := A9.out.range 0 _ rfl
        have TQ : RowT 54 ((#[.int .i64 p, .int .i64 q, .int .i64 o, .bool u, .int .i64 (kk : Int), .int .i64 a, .int .i64 n, .int .i64 p2, .int .i64 q2] : Array Value).toList).length := RowQ
        have CQ1 := Lib.hid (CQ.out w9 HB9.out)
        go_wp2_with (first
          | ((with_reducible refine ld_row rx TQ ?_ ?_ ?_); (· rfl); (· rfl); (simp only [Act.put, List.setIfInBounds_toArray, List.set_cons_zero, List.set_cons_succ])))
        refine CQ1.out.mono ?_
        rintro e wz ⟨rfl, hb⟩
        have HBz := Lib.hid (HB9.out.trans (hb.mono (HG0.out ▸ HB9.out.size)))
        clear hb
        go_wp2_with fail
        go_ret
        have hge := HG0.out
        subst hge
        exact ⟨rfl, HBz.out⟩
      · generalize w3.drew = wD at *
        have hal := (Below.refl wD.heap.size wD).alloc (Nat.le_refl _) (.cells #[.int .i64 a, .int .i64 n] 2)
        have hsl := sl_lit wD 2 [a, n] (by simp)
        refine op_value (v := .slice (some ⟨wD.heap.size, 0, none⟩) 2 2) 36 [true, true, false, false, true, false, true, true, true, true, true, true, true, false, false, false] rfl (by rfl) (by rfl) (by rfl) (by go_simp <;> rfl) (hHeld.trans (hal.mono hHeld.size)) fun hHeld => ?_
        simp only [Act.put, List.setIfInBounds_toArray, List.set_cons_zero, List.set_cons_succ]
        refine held_call 2 26 [true, true, true, false, true, false, true, true, true, true, true, true, true, false, false, false] (by kernel_rfl) rfl (by rfl) (by rfl) (by rfl) (by go_simp) ((CI.out _).mono ?_)
        rintro e w4 ⟨rfl, hb4⟩
        refine ⟨_, rfl, hHeld.trans (hb4.mono hHeld.size), fun hHeld => ?_⟩
        simp only [Act.put, List.setIfInBounds_toArray, List.set_cons_zero, List.set_cons_succ]
        have hsl4 := hsl.keep hb4
        refine held_take (v := .string (KB ++ ⟨#[32]⟩)) 3 27 [true, true, true, true, true, false, true, true, true, true, true, true, true, false, false, false] rfl (by rfl) (by rfl) (by kernel_rfl) (by kernel_rfl) (by kernel_rfl) (by rfl) (fun _ _ _ h => h) (fun w' h => run_op_adds rfl rfl rfl hs1) hHeld ?_
        simp only [Act.put, List.setIfInBounds_toArray, List.set_cons_zero, List.set_cons_succ]
        refine held_take (v := .string (KB ++ ⟨#[32]⟩ ++ WB)) 5 29 [true, true, true, true, true, true, true, true, true, true, true, true, true, false, false, false] rfl (by rfl) (by rfl) (by kernel_rfl) (by kernel_rfl) (by kernel_rfl) (by rfl) (fun _ _ _ h => h) (fun w' h => run_op_adds rfl rfl rfl hs2) hHeld ?_
        simp only [Act.put, List.setIfInBounds_toArray, List.set_cons_zero, List.set_cons_succ]
        refine held_call 13 37 [true, true, true, true, true, true, true, true, true, true, true, true, true, true, false, false] (by kernel_rfl) rfl (by rfl) (by rfl) (by rfl) (by go_simp) ((DM.out _ 2 _ hsl4).mono ?_)
        rintro e w9 ⟨rfl, hb9⟩
        refine ⟨_, rfl, hHeld.trans (hb9.mono hHeld.size), fun hHeld => ?_⟩
        simp only [Act.put, List.setIfInBounds_toArray, List.set_cons_zero, List.set_cons_succ]
        refine held_take (v := .string (KB ++ ⟨#[32]⟩ ++ WB ++ NB)) 14 38 [true, true, true, true, true, true, true, true, true, true, true, true, true, true, true, false] rfl (by rfl) (by rfl) (by kernel_rfl) (by kernel_rfl) (by kernel_rfl) (by rfl) (fun _ _ _ h => h) (fun w' h => run_op_adds rfl rfl rfl hs3) hHeld ?_
        simp only [Act.put, List.setIfInBounds_toArray, List.set_cons_zero, List.set_cons_succ]
        refine held_take (v := ?_) 15 5 [true, true, true, true, true, true, true, true, true, true, true, true, true, true, true, true] rfl (by rfl) (by rfl) (by kernel_rfl) (by kernel_rfl) (by kernel_rfl) (by rfl) (fun _ _ _ h => h) ?_ hHeld ?_
        rotate_left
        · intro w hSw; go_simp <;> with_reducible rfl
        simp only [Act.put, List.setIfInBounds_toArray, List.set_cons_zero, List.set_cons_succ]
        refine held_done (by kernel_rfl) ?_
        have HB9 := Lib.hid (HB3.out.trans (hHeld.mono (HG0.out ▸ HB3.out.size)))
        have A9 := Lib.hid (A3.out.keep hHeld A3.out.lt)
        have ri : w9.rangeAt g0 7 (ints [p2, q2]) := A9.out.range 7 (ints [p2, q2]) rfl
        clear hb9
        go_upto_region 10 with (first
          | ((with_reducible refine ld_row ri id_row ?_ ?_ ?_); (· rfl); (· rfl); (simp only [Act.put, List.setIfInBounds_toArray, List.set_cons_zero, List.set_cons_succ]))
          | ((with_reducible refine cmp_row id_guard HNE.out ?_ ?_ ?_ ?_); (· rfl); (· rfl); (· rfl); (simp only [Act.put, List.setIfInBounds_toArray, List.set_cons_zero, List.set_cons_succ])))
        clear ri
        have rx : w9.rangeAt g0 0 (#[.int .i64 p, .int .i64 q, .int .i64 o, .bool u, .int .i64 (kk : Int), .int .i64 a, .int .i64 n, .int .i64 p2, .int .i64 q2] : Array Value).toList := A9.out.range 0 _ rfl
        have TQ : RowT 54 ((#[.int .i64 p, .int .i64 q, .int .i64 o, .bool u, .int .i64 (kk : Int), .int .i64 a, .int .i64 n, .int .i64 p2, .int .i64 q2] : Array Value).toList).length := RowQ
        have CQ1 := Lib.hid (CQ.out w9 HB9.out)
        go_wp2_with (first
          | ((with_reducible refine ld_row rx TQ ?_ ?_ ?_); (· rfl); (· rfl); (simp only [Act.put, List.setIfInBounds_toArray, List.set_cons_zero, List.set_cons_succ])))
        refine CQ1.out.mono ?_
        rintro e wz ⟨rfl, hb⟩
        have HBz := Lib.hid (HB9.out.trans (hb.mono (HG0.out ▸ HB9.out.size)))
        clear hb
        go_wp2_with fail
        go_ret
        have hge := HG0.out
        subst hge
        exact ⟨rfl, HBz.out⟩

    · have HRQ : reqB p q o u k a n p2 q2 = keyB p q o u ++ ⟨#[32]⟩ ++ wordB kk ++ numsB [a, n] ++ ⟨#[32]⟩ ++ idB p2 q2 := by
        have e : txtB k a n p2 q2 = wordB kk ++ ⟨#[32]⟩ ++ itB a ++ ⟨#[32]⟩ ++ itB n ++ (⟨#[32]⟩ ++ idB p2 q2) := by unfold txtB; rw [hk, show k.toNat = kk by omega]; exact if_neg hz
        unfold reqB
        rw [e, nums2, ← ByteArray.append_assoc, ← ByteArray.append_assoc, ← ByteArray.append_assoc]
      clear hk
      subst hkn
      have HB := Lib.hid ((Below.refl w.heap.size w).alloc (Nat.le_refl _) (.cells #[.int .i64 p, .int .i64 q, .int .i64 o, .bool u, .int .i64 (kk : Int), .int .i64 a, .int .i64 n, .int .i64 p2, .int .i64 q2] 54))
      have A : Hid (Blk (w.alloc (.cells #[.int .i64 p, .int .i64 q, .int .i64 o, .bool u, .int .i64 (kk : Int), .int .i64 a, .int .i64 n, .int .i64 p2, .int .i64 q2] 54)) w.heap.size #[.int .i64 p, .int .i64 q, .int .i64 o, .bool u, .int .i64 (kk : Int), .int .i64 a, .int .i64 n, .int .i64 p2, .int .i64 q2].toList 54) := Lib.hid (Blk.new w #[.int .i64 p, .int .i64 q, .int .i64 o, .bool u, .int .i64 (kk : Int), .int .i64 a, .int .i64 n, .int .i64 p2, .int .i64 q2] 54)
      have HAL := Lib.hid (fun w' (hb : Below w.heap.size w w') => alive39 w' (hT.keep hb) (hBk.keep hb) (hS.keep hb))
      have CQ := Lib.hid (fun w' (hb : Below w.heap.size w w') => request_any p q o u (kk : Int) a n p2 q2 w' hf (hT.keep hb) (hW.keep hb))
      rw [HRQ] at CQ
      have CI := Lib.hid (fun w' => show Calls Tryd.prog 16 #[.agg ([.int .i64 p, .int .i64 q, .int .i64 o, .bool u] : List Value).toArray] w' _ from rkeytext_any p q o u w' hfp hfq hfo)
      have DM := Lib.hid (fun a' c' w' (h : Sl w' a' 2 1 (ints [a, n])) => decimals_any a' 2 c' [a, n] w' h (by decide) hf2)
      have CJ := Lib.hid (fun w' => ridtext_any p2 q2 w' hfp2 hfq2)
      have HNE := Lib.hid (id_ne hfp2 hfq2)
      rw [decide_eq_false hz] at HNE
      clear hT hW hS hBk hf hfp hfq hfo hf2 hfp2 hfq2 hz HRQ
      generalize keyB p q o u = KB at *
      generalize numsB [a, n] = NB at *
      generalize idB p2 q2 = IB at *
      go_enter Tryd.func5, Tryd.ntmps5
      go_upto_region 1 with fail
      generalize hg0 : w.heap.size = g0 at *
      have HG0 := Lib.hid hg0
      generalize (w.alloc (.cells #[.int .i64 p, .int .i64 q, .int .i64 o, .bool u, .int .i64 (kk : Int), .int .i64 a, .int .i64 n, .int .i64 p2, .int .i64 q2] 54)) = w1 at *
      clear hg0
      have AL1 := Lib.hid (HAL.out w1 HB.out)
      go_wp2_with fail
      refine AL1.out.mono ?_
      rintro e w2 ⟨rfl, hb⟩
      have HB2 := Lib.hid (HB.out.trans (hb.mono (HG0.out ▸ HB.out.size)))
      have A2 := Lib.hid (A.out.keep hb A.out.lt)
      clear hb HB A AL1 HAL
      have HC := Lib.hid (words12 w2)
      have HB3 := Lib.hid (HB2.out.alloc (HG0.out ▸ HB2.out.size) (.cells #[.string ⟨#[63]⟩, .string ⟨#[114, 101, 115, 101, 114, 118, 101]⟩, .string ⟨#[97, 100, 106, 117, 115, 116]⟩, .string ⟨#[114, 101, 108, 101, 97, 115, 101]⟩, .string ⟨#[97, 117, 116, 104, 111, 114, 105, 122, 101]⟩, .string ⟨#[108, 97, 98, 101, 108]⟩, .string ⟨#[112, 105, 99, 107]⟩, .string ⟨#[109, 97, 105, 108]⟩, .string ⟨#[114, 101, 99, 101, 105, 112, 116]⟩, .string ⟨#[99, 97, 112, 116, 117, 114, 101]⟩, .string ⟨#[114, 101, 112, 97, 121]⟩, .string ⟨#[100, 105, 115, 112, 97, 116, 99, 104]⟩] 55))
      have A3 := Lib.hid (A2.out.alloc (.cells #[.string ⟨#[63]⟩, .string ⟨#[114, 101, 115, 101, 114, 118, 101]⟩, .string ⟨#[97, 100, 106, 117, 115, 116]⟩, .string ⟨#[114, 101, 108, 101, 97, 115, 101]⟩, .string ⟨#[97, 117, 116, 104, 111, 114, 105, 122, 101]⟩, .string ⟨#[108, 97, 98, 101, 108]⟩, .string ⟨#[112, 105, 99, 107]⟩, .string ⟨#[109, 97, 105, 108]⟩, .string ⟨#[114, 101, 99, 101, 105, 112, 116]⟩, .string ⟨#[99, 97, 112, 116, 117, 114, 101]⟩, .string ⟨#[114, 101, 112, 97, 121]⟩, .string ⟨#[100, 105, 115, 112, 97, 116, 99, 104]⟩] 55))
      go_upto_region 4 with fail
      clear HB2 A2
      generalize hg2 : w2.heap.size = g2 at *
      generalize w2.alloc (.cells #[.string ⟨#[63]⟩, .string ⟨#[114, 101, 115, 101, 114, 118, 101]⟩, .string ⟨#[97, 100, 106, 117, 115, 116]⟩, .string ⟨#[114, 101, 108, 101, 97, 115, 101]⟩, .string ⟨#[97, 117, 116, 104, 111, 114, 105, 122, 101]⟩, .string ⟨#[108, 97, 98, 101, 108]⟩, .string ⟨#[112, 105, 99, 107]⟩, .string ⟨#[109, 97, 105, 108]⟩, .string ⟨#[114, 101, 99, 101, 105, 112, 116]⟩, .string ⟨#[99, 97, 112, 116, 117, 114, 101]⟩, .string ⟨#[114, 101, 112, 97, 121]⟩, .string ⟨#[100, 105, 115, 112, 97, 116, 99, 104]⟩] 55) = w3 at *
      clear hg2
      have ck := A3.out.cell 4
      have cw := HC.out kk HKK.out
      go_upto_region 7 with fail
      clear ck HC cw
      generalize wordB kk = WB at *
      refine held_begin (fun w' => Below w3.heap.size w3 w') 16 [false, false, false, false, false, false, false, false, false, false, false, false, false, false, false, false] (by kernel_rfl) rfl (by rfl) ?_
      have hHeld : Below w3.heap.size w3 w3.drew := (Below.refl _ _).drew
      refine held_take (v := ?_) 0 24 [true, false, false, false, false, false, false, false, false, false, false, false, false, false, false, false] rfl (by rfl) (by rfl) (by kernel_rfl) (by kernel_rfl) (by kernel_rfl) (by rfl) (fun _ _ _ h => h) ?_ hHeld ?_
      rotate_left
      · intro w hSw; go_simp <;> with_reducible rfl
      simp only [Act.put, List.setIfInBounds_toArray, List.set_cons_zero, List.set_cons_succ]
      refine held_take (v := .agg ([.int .i64 p, .int .i64 q, .int .i64 o, .bool u] : List Value).toArray) 1 25 [true, true, false, false, false, false, false, false, false, false, false, false, false, false, false, false] rfl (by rfl) (by rfl) (by kernel_rfl) (by kernel_rfl) (by kernel_rfl) (by rfl) (fun _ _ _ h => h) (fun w' h => run_op_load rfl rfl ((A3.out.keep h A3.out.lt).range 0 [.int .i64 p, .int .i64 q, .int .i64 o, .bool u] rfl) Tryd.underlying50 rfl key_sz) hHeld ?_
      simp only [Act.put, List.setIfInBounds_toArray, List.set_cons_zero, List.set_cons_succ]
      refine held_take (v := ?_) 4 28 [true, true, false, false, true, false, false, false, false, false, false, false, false, false, false, false] rfl (by rfl) (by rfl) (by kernel_rfl) (by kernel_rfl) (by kernel_rfl) (by rfl) (fun _ _ _ h => h) ?_ hHeld ?_
      rotate_left
      · intro w hSw; go_simp <;> with_reducible rfl
      simp only [Act.put, List.setIfInBounds_toArray, List.set_cons_zero, List.set_cons_succ]
      refine held_take (v := ?_) 6 30 [true, true, false, false, true, false, true, false, false, false, false, false, false, false, false, false] rfl (by rfl) (by rfl) (by kernel_rfl) (by kernel_rfl) (by kernel_rfl) (by rfl) (fun _ _ _ h => h) ?_ hHeld ?_
      rotate_left
      · intro w hSw; go_simp <;> with_reducible rfl
      simp only [Act.put, List.setIfInBounds_toArray, List.set_cons_zero, List.set_cons_succ]
      refine held_take (v := ?_) 7 31 [true, true, false, false, true, false, true, true, false, false, false, false, false, false, false, false] rfl (by rfl) (by rfl) (by kernel_rfl) (by kernel_rfl) (by kernel_rfl) (by rfl) (fun _ _ _ h => h) ?_ hHeld ?_
      rotate_left
      · intro w hSw; go_simp <;> with_reducible rfl
      simp only [Act.put, List.setIfInBounds_toArray, List.set_cons_zero, List.set_cons_succ]
      refine held_take (v := .int .i64 a) 8 32 [true, true, false, false, true, false, true, true, true, false, false, false, false, false, false, false] rfl (by rfl) (by rfl) (by kernel_rfl) (by kernel_rfl) (by kernel_rfl) (by rfl) (fun _ _ _ h => h) (fun w' h => run_op_one rfl rfl Tryd.underlying3 rfl ((A3.out.keep h A3.out.lt).cell 5)) hHeld ?_
      simp only [Act.put, List.setIfInBounds_toArray, List.set_cons_zero, List.set_cons_succ]
      refine held_take (v := ?_) 9 33 [true, true, false, false, true, false, true, true, true, true, false, false, false, false, false, false] rfl (by rfl) (by rfl) (by kernel_rfl) (by kernel_rfl) (by kernel_rfl) (by rfl) (fun _ _ _ h => h) ?_ hHeld ?_
      rotate_left
      · intro w hSw; go_simp <;> with_reducible rfl
      simp only [Act.put, List.setIfInBounds_toArray, List.set_cons_zero, List.set_cons_succ]
      refine held_take (v := ?_) 10 34 [true, true, false, false, true, false, true, true, true, true, true, false, false, false, false, false] rfl (by rfl) (by rfl) (by kernel_rfl) (by kernel_rfl) (by kernel_rfl) (by rfl) (fun _ _ _ h => h) ?_ hHeld ?_
      rotate_left
      · intro w hSw; go_simp <;> with_reducible rfl
      simp only [Act.put, List.setIfInBounds_toArray, List.set_cons_zero, List.set_cons_succ]
      refine held_take (v := .int .i64 n) 11 35 [true, true, false, false, true, false, true, true, true, true, true, true, false, false, false, false] rfl (by rfl) (by rfl) (by kernel_rfl) (by kernel_rfl) (by kernel_rfl) (by rfl) (fun _ _ _ h => h) (fun w' h => run_op_one rfl rfl Tryd.underlying2 rfl ((A3.out.keep h A3.out.lt).cell 6)) hHeld ?_
      simp only [Act.put, List.setIfInBounds_toArray, List.set_cons_zero, List.set_cons_succ]
      refine held_two 2 12 (by kernel_rfl) ?_ ?_
      · refine op_call 26 [true, true, true, false, true, false, true, true, true, true, true, true, false, false, false, false] rfl (by rfl) (by rfl) (by rfl) (by go_simp) ((CI.out _).mono ?_)
        rintro e w4 ⟨rfl, hb4⟩
        refine ⟨_, rfl, hHeld.trans (hb4.mono hHeld.size), fun hHeld => ?_⟩
        simp only [Act.put, List.setIfInBounds_toArray, List.set_cons_zero, List.set_cons_succ]
        have hal := (Below.refl w4.heap.size w4).alloc (Nat.le_refl _) (.cells #[.int .i64 a, .int .i64 n] 2)
        have hsl := sl_lit w4 2 [a, n] (by simp)
        refine held_take (v := .string (KB ++ ⟨#[32]⟩)) 3 27 [true, true, true, true, true, false, true, true, true, true, true, true, false, false, false, false] rfl (by rfl) (by rfl) (by kernel_rfl) (by kernel_rfl) (by kernel_rfl) (by rfl) (fun _ _ _ h => h) (fun w' h => run_op_adds rfl rfl rfl hs1) hHeld ?_
        simp only [Act.put, List.setIfInBounds_toArray, List.set_cons_zero, List.set_cons_succ]
        refine held_take (v := .string (KB ++ ⟨#[32]⟩ ++ WB)) 5 29 [true, true, true, true, true, true, true, true, true, true, true, true, false, false, false, false] rfl (by rfl) (by rfl) (by kernel_rfl) (by kernel_rfl) (by kernel_rfl) (by rfl) (fun _ _ _ h => h) (fun w' h => run_op_adds rfl rfl rfl hs2) hHeld ?_
        simp only [Act.put, List.setIfInBounds_toArray, List.set_cons_zero, List.set_cons_succ]
        refine held_one 12 (by kernel_rfl) ?_
        refine op_value (v := .slice (some ⟨w4.heap.size, 0, none⟩) 2 2) 36 [true, true, true, true, true, true, true, true, true, true, true, true, true, false, false, false] rfl (by rfl) (by rfl) (by rfl) (by go_simp <;> rfl) (hHeld.trans (hal.mono hHeld.size)) fun hHeld => ?_
        simp only [Act.put, List.setIfInBounds_toArray, List.set_cons_zero, List.set_cons_succ]
        refine held_call 13 37 [true, true, true, true, true, true, true, true, true, true, true, true, true, true, false, false] (by kernel_rfl) rfl (by rfl) (by rfl) (by rfl) (by go_simp) ((DM.out _ 2 _ hsl).mono ?_)
        rintro e w9 ⟨rfl, hb9⟩
        refine ⟨_, rfl, hHeld.trans (hb9.mono hHeld.size), fun hHeld => ?_⟩
        simp only [Act.put, List.setIfInBounds_toArray, List.set_cons_zero, List.set_cons_succ]
        refine held_take (v := .string (KB ++ ⟨#[32]⟩ ++ WB ++ NB)) 14 38 [true, true, true, true, true, true, true, true, true, true, true, true, true, true, true, false] rfl (by rfl) (by rfl) (by kernel_rfl) (by kernel_rfl) (by kernel_rfl) (by rfl) (fun _ _ _ h => h) (fun w' h => run_op_adds rfl rfl rfl hs3) hHeld ?_
        simp only [Act.put, List.setIfInBounds_toArray, List.set_cons_zero, List.set_cons_succ]
        refine held_take (v := ?_) 15 5 [true, true, true, true, true, true, true, true, true, true, true, true, true, true, true, true] rfl (by rfl) (by rfl) (by kernel_rfl) (by kernel_rfl) (by kernel_rfl) (by rfl) (fun _ _ _ h => h) ?_ hHeld ?_
        rotate_left
        · intro w hSw; go_simp <;> with_reducible rfl
        simp only [Act.put, List.setIfInBounds_toArray, List.set_cons_zero, List.set_cons_succ]
        refine held_done (by kernel_rfl) ?_
        have HB9 := Lib.hid (HB3.out.trans (hHeld.mono (HG0.out ▸ HB3.out.size)))
        have A9 := Lib.hid (A3.out.keep hHeld A3.out.lt)
        have ri : w9.rangeAt g0 7 (ints [p2, q2]) := A9.out.range 7 (ints [p2, q2]) rfl
        clear hb9
        go_wp2_with (first
          | ((with_reducible refine ld_row ri id_row ?_ ?_ ?_); (· rfl); (· rfl); (simp only [Act.put, List.setIfInBounds_toArray, List.set_cons_zero, List.set_cons_succ]))
          | ((with_reducible refine cmp_row id_guard HNE.out ?_ ?_ ?_ ?_); (· rfl); (· rfl); (· rfl); (simp only [Act.put, List.setIfInBounds_toArray, List.set_cons_zero, List.set_cons_succ])))
        refine (CJ.out _).mono ?_
        rintro e wy ⟨rfl, hb⟩
        have HBy := Lib.hid (HB9.out.trans (hb.mono (HG0.out ▸ HB9.out.size)))
        have Ay := Lib.hid (A9.out.keep hb A9.out.lt)
        clear hb ri
        go_upto_region 10 with fail
        have rx : wy.rangeAt g0 0 (#[.int .i64 p, .int .i64 q, .int .i64 o, .bool u, .int .i64 (kk : Int), .int .i64 a, .int .i64 n, .int .i64 p2, .int .i64 q2] : Array Value).toList := Ay.out.range 0 _ rfl
        have TQ : RowT 54 ((#[.int .i64 p, .int .i64 q, .int .i64 o, .bool u, .int .i64 (kk : Int), .int .i64 a, .int .i64 n, .int .i64 p2, .int .i64 q2] : Array Value).toList).length := RowQ
        have CQ1 := Lib.hid (CQ.out wy HBy.out)
        go_wp2_with (first
          | ((with_reducible refine ld_row rx TQ ?_ ?_ ?_); (· rfl); (· rfl); (simp only [Act.put, List.setIfInBounds_toArray, List.set_cons_zero, List.set_cons_succ])))
        refine CQ1.out.mono ?_
        rintro e wz ⟨rfl, hb⟩
        have HBz := Lib.hid (HBy.out.trans (hb.mono (HG0.out ▸ HBy.out.size)))
        clear hb
        go_wp2_with fail
        go_ret
        have hge := HG0.out
        subst hge
        exact ⟨rfl, HBz.out⟩
      · generalize w3.drew = wD at *
        have hal := (Below.refl wD.heap.size wD).alloc (Nat.le_refl _) (.cells #[.int .i64 a, .int .i64 n] 2)
        have hsl := sl_lit wD 2 [a, n] (by simp)
        refine op_value (v := .slice (some ⟨wD.heap.size, 0, none⟩) 2 2) 36 [true, true, false, false, true, false, true, true, true, true, true, true, true, false, false, false] rfl (by rfl) (by rfl) (by rfl) (by go_simp <;> rfl) (hHeld.trans (hal.mono hHeld.size)) fun hHeld => ?_
        simp only [Act.put, List.setIfInBounds_toArray, List.set_cons_zero, List.set_cons_succ]
        refine held_call 2 26 [true, true, true, false, true, false, true, true, true, true, true, true, true, false, false, false] (by kernel_rfl) rfl (by rfl) (by rfl) (by rfl) (by go_simp) ((CI.out _).mono ?_)
        rintro e w4 ⟨rfl, hb4⟩
        refine ⟨_, rfl, hHeld.trans (hb4.mono hHeld.size), fun hHeld => ?_⟩
        simp only [Act.put, List.setIfInBounds_toArray, List.set_cons_zero, List.set_cons_succ]
        have hsl4 := hsl.keep hb4
        refine held_take (v := .string (KB ++ ⟨#[32]⟩)) 3 27 [true, true, true, true, true, false, true, true, true, true, true, true, true, false, false, false] rfl (by rfl) (by rfl) (by kernel_rfl) (by kernel_rfl) (by kernel_rfl) (by rfl) (fun _ _ _ h => h) (fun w' h => run_op_adds rfl rfl rfl hs1) hHeld ?_
        simp only [Act.put, List.setIfInBounds_toArray, List.set_cons_zero, List.set_cons_succ]
        refine held_take (v := .string (KB ++ ⟨#[32]⟩ ++ WB)) 5 29 [true, true, true, true, true, true, true, true, true, true, true, true, true, false, false, false] rfl (by rfl) (by rfl) (by kernel_rfl) (by kernel_rfl) (by kernel_rfl) (by rfl) (fun _ _ _ h => h) (fun w' h => run_op_adds rfl rfl rfl hs2) hHeld ?_
        simp only [Act.put, List.setIfInBounds_toArray, List.set_cons_zero, List.set_cons_succ]
        refine held_call 13 37 [true, true, true, true, true, true, true, true, true, true, true, true, true, true, false, false] (by kernel_rfl) rfl (by rfl) (by rfl) (by rfl) (by go_simp) ((DM.out _ 2 _ hsl4).mono ?_)
        rintro e w9 ⟨rfl, hb9⟩
        refine ⟨_, rfl, hHeld.trans (hb9.mono hHeld.size), fun hHeld => ?_⟩
        simp only [Act.put, List.setIfInBounds_toArray, List.set_cons_zero, List.set_cons_succ]
        refine held_take (v := .string (KB ++ ⟨#[32]⟩ ++ WB ++ NB)) 14 38 [true, true, true, true, true, true, true, true, true, true, true, true, true, true, true, false] rfl (by rfl) (by rfl) (by kernel_rfl) (by kernel_rfl) (by kernel_rfl) (by rfl) (fun _ _ _ h => h) (fun w' h => run_op_adds rfl rfl rfl hs3) hHeld ?_
        simp only [Act.put, List.setIfInBounds_toArray, List.set_cons_zero, List.set_cons_succ]
        refine held_take (v := ?_) 15 5 [true, true, true, true, true, true, true, true, true, true, true, true, true, true, true, true] rfl (by rfl) (by rfl) (by kernel_rfl) (by kernel_rfl) (by kernel_rfl) (by rfl) (fun _ _ _ h => h) ?_ hHeld ?_
        rotate_left
        · intro w hSw; go_simp <;> with_reducible rfl
        simp only [Act.put, List.setIfInBounds_toArray, List.set_cons_zero, List.set_cons_succ]
        refine held_done (by kernel_rfl) ?_
        have HB9 := Lib.hid (HB3.out.trans (hHeld.mono (HG0.out ▸ HB3.out.size)))
        have A9 := Lib.hid (A3.out.keep hHeld A3.out.lt)
        have ri : w9.rangeAt g0 7 (ints [p2, q2]) := A9.out.range 7 (ints [p2, q2]) rfl
        clear hb9
        go_wp2_with (first
          | ((with_reducible refine ld_row ri id_row ?_ ?_ ?_); (· rfl); (· rfl); (simp only [Act.put, List.setIfInBounds_toArray, List.set_cons_zero, List.set_cons_succ]))
          | ((with_reducible refine cmp_row id_guard HNE.out ?_ ?_ ?_ ?_); (· rfl); (· rfl); (· rfl); (simp only [Act.put, List.setIfInBounds_toArray, List.set_cons_zero, List.set_cons_succ])))
        refine (CJ.out _).mono ?_
        rintro e wy ⟨rfl, hb⟩
        have HBy := Lib.hid (HB9.out.trans (hb.mono (HG0.out ▸ HB9.out.size)))
        have Ay := Lib.hid (A9.out.keep hb A9.out.lt)
        clear hb ri
        go_upto_region 10 with fail
        have rx : wy.rangeAt g0 0 (#[.int .i64 p, .int .i64 q, .int .i64 o, .bool u, .int .i64 (kk : Int), .int .i64 a, .int .i64 n, .int .i64 p2, .int .i64 q2] : Array Value).toList := Ay.out.range 0 _ rfl
        have TQ : RowT 54 ((#[.int .i64 p, .int .i64 q, .int .i64 o, .bool u, .int .i64 (kk : Int), .int .i64 a, .int .i64 n, .int .i64 p2, .int .i64 q2] : Array Value).toList).length := RowQ
        have CQ1 := Lib.hid (CQ.out wy HBy.out)
        go_wp2_with (first
          | ((with_reducible refine ld_row rx TQ ?_ ?_ ?_); (· rfl); (· rfl); (simp only [Act.put, List.setIfInBounds_toArray, List.set_cons_zero, List.set_cons_succ])))
        refine CQ1.out.mono ?_
        rintro e wz ⟨rfl, hb⟩
        have HBz := Lib.hid (HBy.out.trans (hb.mono (HG0.out ▸ HBy.out.size)))
        clear hb
        go_wp2_with fail
        go_ret
        have hge := HG0.out
        subst hge
        exact ⟨rfl, HBz.out⟩


theorem requests39_law (v0 : Value) (w : World) (hL : laidMet Tryd.prog Rows.outlineRequestsRow.laid w) (h0 : Arg Tryd.prog w 54 v0) : Calls Tryd.prog 5 #[v0] w fun e w' => e = .returned (.bool true) ∧ Below w.heap.size w w' := by
  have hT : PTab w := ptab_of hL (l := Rows.outlineRequestsRow.laid) (List.Mem.tail _ (List.Mem.tail _ (List.Mem.head _)))
  have hB : STab 1 bookW w := stab_of (t := 32) (n := 10) hL (l := Rows.outlineRequestsRow.laid) (name := "countermand/booking.words") (List.Mem.tail _ (List.Mem.tail _ (List.Mem.tail _ (List.Mem.head _)))) (by kernel_rfl) (by kernel_rfl) Tryd.underlying32 rfl (by decide)
  have hW : WTab w := wtab_of hL (l := Rows.outlineRequestsRow.laid) (List.Mem.tail _ (List.Mem.tail _ (List.Mem.tail _ (List.Mem.tail _ (List.Mem.head _)))))
  have hS : STab 0 stW w := stab_of (t := 62) (n := 6) hL (l := Rows.outlineRequestsRow.laid) (name := "countermand/outline.states") (List.Mem.tail _ (List.Mem.tail _ (List.Mem.tail _ (List.Mem.tail _ (List.Mem.tail _ (List.Mem.head _)))))) (by kernel_rfl) (by kernel_rfl) Tryd.underlying62 rfl (by decide)
  obtain ⟨p, q, o, u, k, a, n, p2, q2, rfl, hf⟩ := h0.request
  exact requests39 p q o u k a n p2 q2 w hf hT hW hB hS
end Go.Proofs.YtaaefkadkciohaaDoor
