/- The lines: answers, changes, orders. -/
import Derived.Test.YtaaefkadkciohaaDoorOut
import Derived.Deep.DeepCutAuto
import Derived.Maps.AppendAt
import Derived.Test.YtaaefkadkciohaaDoorRow
import Derived.Test.YtaaefkadkciohaaDoorOps
import Derived.RegionTactic
import Derived.BigRegion
import Derived.ChangeAlike
namespace Go.Proofs.YtaaefkadkciohaaDoor
set_option linter.unusedVariables false
set_option linter.unusedSimpArgs false
open Go.ChangeShapes Go.WideShapes Go.ChangeAt Go.RowKit
def ansB (c n m : Int) : ByteArray := (if c = 0 then ⟨#[111, 107]⟩ else ⟨#[101, 114, 114, 111, 114]⟩ ++ numsB [c]) ++ numsB [n, m]
theorem numsB_size {L : List Int} (hf : ∀ z ∈ L, fits z = true) : (numsB L).size ≤ 22 * L.length := by
  unfold numsB
  rw [ba_sz (numsL L)]
  exact numsL_len hf
set_option maxHeartbeats 4000000 in
theorem answer_any (c n m : Int) (w : World) (hf : ∀ z ∈ [c, n, m], fits z = true) (hT : PTab w) : Calls Tryd.prog 13 #[.agg #[.int .i64 c, .int .i64 n, .int .i64 m]] w fun e w' => e = .returned (.string (ansB c n m)) ∧ Below w.heap.size w w' := by
  have HB := Lib.hid ((Below.refl w.heap.size w).alloc (Nat.le_refl _) (.cells #[.int .i64 c, .int .i64 n, .int .i64 m] 30))
  have A := Lib.hid (Blk.new w #[.int .i64 c, .int .i64 n, .int .i64 m] 30)
  have HT := Lib.hid (fun w' (hb : Below w.heap.size w w') => hT.keep hb)
  have hfc := hf c (by simp)
  have hf2 : ∀ z ∈ [n, m], fits z = true := fun z hz => hf z (List.mem_cons_of_mem _ hz)
  have hf1 : ∀ z ∈ [c], fits z = true := fun z hz => by rw [List.mem_singleton] at hz; rw [hz]; exact hfc
  have HS1 := Lib.hid (numsB_size hf1)
  obtain ⟨RV, hRV⟩ : ∃ RV, RV = ansB c n m := ⟨_, rfl⟩
  rw [← hRV]
  by_cases hc : c = 0
  · have HRV : Hid (RV = ⟨#[111, 107]⟩ ++ numsB [n, m]) := Lib.hid (by rw [hRV]; unfold ansB; rw [if_pos hc])
    have hcb : (c != 0) = false := by rw [hc]; rfl
    have R2 := Lib.hid (fun a k w' (h : Sl w' a 2 1 (ints [n, m])) (hb : Below w.heap.size w w') => row_any ⟨#[111, 107]⟩ a 2 k [n, m] w' h (by decide) (by decide) hf2 (HT.out w' hb))
    clear hf hT hfc hf1 hf2 hRV hc HS1
    go_enter Tryd.func13, Tryd.ntmps13
    go_upto_region 1 with fail
    generalize hg0 : w.heap.size = g0 at *
    have HG0 := Lib.hid hg0
    generalize (w.alloc (.cells #[.int .i64 c, .int .i64 n, .int .i64 m] 30)) = w1 at *
    clear hg0
    have c0 := A.out.cell 0
    have c1 := A.out.cell 1
    have c2 := A.out.cell 2
    have HSL := Lib.hid (sl_lit w1 2 [n, m] (by simp))
    have HB2 := Lib.hid (HB.out.alloc (HG0.out ▸ HB.out.size) (.cells #[.int .i64 n, .int .i64 m] 2))
    have RR := Lib.hid (R2.out (some ⟨w1.heap.size, 0, none⟩) 2 (w1.alloc (.cells #[.int .i64 n, .int .i64 m] 2)) HSL.out HB2.out)
    go_wp2_with fail
    refine RR.out.mono ?_
    rintro e w3 ⟨rfl, hb⟩
    have HB3 := Lib.hid (HB2.out.trans (hb.mono (HG0.out ▸ HB2.out.size)))
    clear hb
    go_wp2_with fail
    go_ret
    have hge := HG0.out
    subst hge
    exact ⟨by rw [HRV.out]; rfl, HB3.out⟩
  · have HRV : Hid (RV = (⟨#[101, 114, 114, 111, 114]⟩ ++ numsB [c]) ++ numsB [n, m]) := Lib.hid (by rw [hRV]; unfold ansB; rw [if_neg hc])
    have hcb : (c != 0) = true := by simpa using hc
    have R1 := Lib.hid (fun a k w' (h : Sl w' a 1 1 (ints [c])) (hb : Below w.heap.size w w') => row_any ⟨#[101, 114, 114, 111, 114]⟩ a 1 k [c] w' h (by decide) (by decide) hf1 (HT.out w' hb))
    have R2 := Lib.hid (fun a k w' (h : Sl w' a 2 1 (ints [n, m])) (hb : Below w.heap.size w w') => row_any (⟨#[101, 114, 114, 111, 114]⟩ ++ numsB [c]) a 2 k [n, m] w' h (by decide) (by rw [ByteArray.size_append]; have := HS1.out; show 5 + _ ≤ 1000; simp only [List.length_singleton] at this; omega) hf2 (HT.out w' hb))
    clear hf hT hfc hf1 hf2 hRV hc
    generalize ⟨#[101, 114, 114, 111, 114]⟩ ++ numsB [c] = EB at *
    go_enter Tryd.func13, Tryd.ntmps13
    go_upto_region 1 with fail
    generalize hg0 : w.heap.size = g0 at *
    have HG0 := Lib.hid hg0
    generalize (w.alloc (.cells #[.int .i64 c, .int .i64 n, .int .i64 m] 30)) = w1 at *
    clear hg0
    have c0 := A.out.cell 0
    have HSL := Lib.hid (sl_lit w1 2 [c] (by simp))
    have HB2 := Lib.hid (HB.out.alloc (HG0.out ▸ HB.out.size) (.cells #[.int .i64 c] 2))
    have A2 := Lib.hid (A.out.alloc (.cells #[.int .i64 c] 2))
    have RR := Lib.hid (R1.out (some ⟨w1.heap.size, 0, none⟩) 1 (w1.alloc (.cells #[.int .i64 c] 2)) HSL.out HB2.out)
    go_wp2_with fail
    refine RR.out.mono ?_
    rintro e w3 ⟨rfl, hb⟩
    have HB3 := Lib.hid (HB2.out.trans (hb.mono (HG0.out ▸ HB2.out.size)))
    have A3 := Lib.hid (A2.out.keep hb A2.out.lt)
    clear hb c0 HSL HB2 RR
    have c1 := A3.out.cell 1
    have c2 := A3.out.cell 2
    have HSL := Lib.hid (sl_lit w3 2 [n, m] (by simp))
    have HB4 := Lib.hid (HB3.out.alloc (HG0.out ▸ HB3.out.size) (.cells #[.int .i64 n, .int .i64 m] 2))
    have RR := Lib.hid (R2.out (some ⟨w3.heap.size, 0, none⟩) 2 (w3.alloc (.cells #[.int .i64 n, .int .i64 m] 2)) HSL.out HB4.out)
    go_wp2_with fail
    refine RR.out.mono ?_
    rintro e w5 ⟨rfl, hb⟩
    have HB5 := Lib.hid (HB4.out.trans (hb.mono (HG0.out ▸ HB4.out.size)))
    clear hb
    go_wp2_with fail
    go_ret
    have hge := HG0.out
    subst hge
    exact ⟨by rw [HRV.out]; rfl, HB5.out⟩
end Go.Proofs.YtaaefkadkciohaaDoor
