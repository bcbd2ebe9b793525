/- The statements' own helpers. -/
import Derived.Test.YtmgjbgingjiimaaLaw08
import Derived.Test.YtmgjbgingjiimaaVec3
namespace Go.Proofs.Ytmgjbgingjiimaa
set_option linter.unusedVariables false
set_option linter.unusedSimpArgs false
open Go.ChangeShapes Go.WideShapes Go.ChangeAt Go.RowKit
theorem few_any (a : Option Addr) (n c : Nat) (w : World) (hn : n ≤ c) : Calls Try.prog 31 #[.slice a n c] w fun e w' => e = .returned (.slice a (min n 40) c) ∧ w' = w := by
  go_enter Try.func31, Try.ntmps31
  by_cases h : 40 < n
  · have h' : (40 : Int) < n := by omega
    have hc : 40 ≤ c := by omega
    rw [show min n 40 = 40 by omega]
    go_wp2_with fail
    go_ret
    exact ⟨rfl, rfl⟩
  · have h' : (n : Int) ≤ 40 := by omega
    rw [show min n 40 = n by omega]
    go_wp2_with fail
    go_ret
    exact ⟨rfl, rfl⟩
set_option maxHeartbeats 1000000 in
theorem has8_any (v : List Int) (r s : Int) (w : World) (hv : Hid (v.length = 4)) :
    Calls Try.prog 32 #[.agg (ints v).toArray, .agg #[.int .i64 r, .int .i64 s]] w fun e w' => e = .returned (.bool (known v r s)) ∧ Below w.heap.size w w' := by
  have A1 := (Blk.new w (ints v).toArray 53).alloc (.cells #[.int .i64 r, .int .i64 s] 55)
  rw [List.toList_toArray] at A1
  have b0 := cell_of_row _ _ 0 _ _ _ (heap_alloc_new (w.alloc (.cells (ints v).toArray 53)) (.cells #[.int .i64 r, .int .i64 s] 55))
  have b1 := cell_of_row _ _ 1 _ _ _ (heap_alloc_new (w.alloc (.cells (ints v).toArray 53)) (.cells #[.int .i64 r, .int .i64 s] 55))
  rw [show (w.alloc (.cells (ints v).toArray 53)).heap.size = w.heap.size + 1 by simp] at b0 b1
  have hb1 := Lib.hid ((((Below.refl w.heap.size w).alloc (Nat.le_refl _) (.cells (ints v).toArray 53)).alloc (by simp) (.cells #[.int .i64 r, .int .i64 s] 55)))
  go_enter Try.func32, Try.ntmps32
  go_upto_region 1 with fail
  generalize (w.alloc (.cells (ints v).toArray 53)).alloc (.cells #[.int .i64 r, .int .i64 s] 55) = W at *
  have B0 : W.cell? ⟨w.heap.size + 1, 0, none⟩ = some (.int .i64 r) := b0
  have B1 : W.cell? ⟨w.heap.size + 1, 1, none⟩ = some (.int .i64 s) := b1
  clear b0 b1
  by_cases h0 : 0 ≤ r
  · by_cases h4 : r < 4
    · obtain ⟨i, rfl⟩ : ∃ i : Nat, r = i := ⟨r.toNat, by omega⟩
      have hi : i < 4 := by omega
      have c1 := A1.vcell hv hi
      obtain ⟨x, hx⟩ : ∃ x, v.getD i 0 = x := ⟨_, rfl⟩
      rw [hx] at c1
      have E := Lib.hid (show known v i s = (decide (1 ≤ s) && decide (s ≤ x)) by unfold known; rw [isRep_yes i hi, ← hx]; rfl)
      clear hx
      by_cases h1 : 1 ≤ s
      · by_cases h2 : s ≤ x
        · have E2 := Lib.hid (show known v i s = true by rw [E.out, decide_eq_true h1, decide_eq_true h2]; rfl)
          go_quiet (fail)
          go_wp2_with fail
          go_ret
          exact ⟨by rw [E2.out]; rfl, hb1.out.trans (Go.Joins.below_draws _ _ _)⟩
        · have E2 := Lib.hid (show known v i s = false by rw [E.out, decide_eq_true h1, decide_eq_false h2]; rfl)
          go_quiet (fail)
          go_wp2_with fail
          go_ret
          exact ⟨by rw [E2.out]; rfl, hb1.out.trans (Go.Joins.below_draws _ _ _)⟩
      · have E2 := Lib.hid (show known v i s = false by rw [E.out, decide_eq_false h1]; rfl)
        go_quiet (fail)
        go_wp2_with fail
        go_ret
        exact ⟨by rw [E2.out]; rfl, hb1.out.trans (Go.Joins.below_draws _ _ _)⟩
    · have E2 := Lib.hid (show known v r s = false by unfold known isRep; rw [decide_eq_false h4, Bool.and_false]; rfl)
      go_quiet (fail)
      go_wp2_with fail
      go_ret
      exact ⟨by rw [E2.out]; rfl, hb1.out.trans (Go.Joins.below_draws _ _ _)⟩
  · have E2 := Lib.hid (show known v r s = false by unfold known isRep; rw [decide_eq_false h0]; rfl)
    go_quiet (fail)
    go_wp2_with fail
    go_ret
    exact ⟨by rw [E2.out]; rfl, hb1.out.trans (Go.Joins.below_draws _ _ _)⟩
theorem flat_chg : flat Try.prog 3 58 = some (List.replicate 9 (some .i64)) := by kernel_rfl
theorem chg_same (x : List Int) (w : World) (hx : x.length = 9) (fx : ∀ k, fits (x.getD k 0) = true) :
    (Op.equalIn 10000 58 (.agg (ints x).toArray) (.agg (ints x).toArray)).run Try.prog w = .ok true w := by
  have h1 := okInts x fx
  rw [hx] at h1
  have := equal_flat 3 4 58 _ _ _ w flat_chg (by kernel_rfl) h1 h1 (formed_of (by kernel_rfl) (by kernel_rfl) h1) (formed_of (by kernel_rfl) (by kernel_rfl) h1) 9996
  rwa [sameB_refl] at this
theorem chg_neq_no {d t t' : Nat} {ty : TypeId} {ps : String} {af : Array Edge} {a : Act} {w : World} {ops : Array Oper} {rest : List Oper} {R : Act → Prop} {x : List Int} (hx : a.eval (.tmp t) = .agg (ints x).toArray) (hy : a.eval (.tmp t') = .agg (ints x).toArray) (h1 : OkAll (List.replicate 9 (some .i64)) (ints x))
    (h : wpStill Try.prog ops w R rest (a.put (some d) (.bool false))) : wpStill Try.prog ops w R (⟨some d, .binOp .neq 58 (.tmp t) (.tmp t') 58, ty, ps, af, none⟩ :: rest) a :=
  st_run rfl (run_op_cmp rfl hx hy (by kernel_rfl) (by rw [neq_flat 3 4 58 _ _ _ w flat_chg (by kernel_rfl) (by kernel_rfl) (by kernel_rfl) (by decide) h1 h1, sameB_refl]; rfl)) h
theorem chAt_fits {L : List Int} {i : Nat} (hf : ∀ k, fits (L.getD k 0) = true) : ∀ k, fits ((chAt L i).getD k 0) = true := fun k => by
  by_cases hk : k < 9
  · rw [chAt_get hk]; exact hf _
  · rw [List.getD_eq_getElem?_getD, List.getElem?_eq_none (by unfold chAt; rw [List.length_take]; omega)]; rfl
theorem chAt_ok {L : List Int} {n i : Nat} (hl : L.length = n * 9) (hi : i < n) (hf : ∀ k, fits (L.getD k 0) = true) : OkAll (List.replicate 9 (some .i64)) (ints (chAt L i)) := by
  have := okInts _ (chAt_fits (L := L) (i := i) hf)
  rwa [chAt_len hl hi] at this
set_option maxHeartbeats 1000000 in
theorem changes_same (a a2 : Option Addr) (n c c2 : Nat) (L : List Int) (w : World) (hs : Sl w a n 9 (ints L)) (hs2 : Sl w a2 n 9 (ints L)) (hn : n ≤ 1000) (hf : ∀ k, fits (L.getD k 0) = true) :
    Calls Try.prog 35 #[.slice a n c, .slice a2 n c2] w fun e w' => e = .returned (.bool true) ∧ Below w.heap.size w w' := by
  have hl : Hid (L.length = n * 9) := Lib.hid (by have := hs.1; rwa [ints_len] at this)
  have HS := Lib.hid hs
  have HS2 := Lib.hid hs2
  clear hs hs2
  go_enter Try.func35, Try.ntmps35
  go_wp2_with fail
  go_loopg [5] n (fun q s5 wr => ∃ i : Nat, q + i = n ∧ s5 = .int .i64 i ∧ Hid (Below w.heap.size w wr))
  case atStart => exact ⟨0, rfl, rfl, Lib.hid (Below.refl _ _)⟩
  case round =>
    obtain ⟨i, hqi, rfl, hbr⟩ := hrel
    by_cases hi : i < n
    · obtain ⟨b, off, rfl, hb, hra⟩ := chAt_at HS.out hi
      obtain ⟨b', off', rfl, hb', hrb⟩ := chAt_at HS2.out hi
      have hra2 := range_keep hra hbr.out hb
      have hrb2 := range_keep hrb hbr.out hb'
      have h9 : Hid ((chAt L i).length = 9) := Lib.hid (chAt_len hl.out hi)
      have hok := Lib.hid (chAt_ok (by have := hl.out; omega) hi hf)
      clear hra hrb
      have hi0 : (0 : Int) ≤ i := by omega
      have hin : (i : Int) < n := by omega
      go_upto_region 6 with fail
      refine wp_region_still_lit (by kernel_rfl) (by kernel_rfl) ?_
      have hra' : wr.drew.rangeAt b (off + i * 9) (ints (chAt L i)) := hra2
      have hrb' : wr.drew.rangeAt b' (off' + i * 9) (ints (chAt L i)) := hrb2
      have hbr' := Lib.hid hbr.out.drew
      change wpStill _ _ (World.drew wr) (fun a' => Exit.then _ _ _ a' (World.drew wr)) _ _
      clear hra2 hrb2 hbr
      generalize wr.drew = wr at *
      have hra := hra'
      have hrb := hrb'
      repeat (first
        | ((with_reducible apply chg_load_st); (· rfl); (· rfl); (· (first | assumption)); (· assumption); (simp only [Act.put, List.setIfInBounds_toArray, List.set_cons_zero, List.set_cons_succ]))
        | ((with_reducible apply chg_neq_no); (· rfl); (· rfl); (· exact hok.out); (simp only [Act.put, List.setIfInBounds_toArray, List.set_cons_zero, List.set_cons_succ]))
        | still_step)
      refine wpStill_nil ?_
      go_wp2_with fail
      go_roundg (gk - 1)
      case measure => omega
      case rel => exact ⟨i + 1, by omega, by go_num, hbr'⟩
    · have hi4 : (n : Int) ≤ i := by omega
      go_wp2_with fail
      go_ret
      exact ⟨rfl, hbr.out⟩
end Go.Proofs.Ytmgjbgingjiimaa
