/- The statements' own helpers. -/
import Derived.Test.YtalbkpahphndiaaLaw08
import Derived.Test.YtalbkpahphndiaaVec3
namespace Go.Proofs.Ytalbkpahphndiaa
set_option linter.unusedVariables false
set_option linter.unusedSimpArgs false
open Go.ChangeShapes Go.WideShapes Go.ChangeAt Go.RowKit
theorem flat_chg : flat Try.prog 3 25 = some (List.replicate 9 (some .i64)) := by kernel_rfl
theorem chg_same (x : List Int) (w : World) (hx : x.length = 9) (fx : ∀ k, fits (x.getD k 0) = true) :
    (Op.equalIn 10000 25 (.agg (ints x).toArray) (.agg (ints x).toArray)).run Try.prog w = .ok true w := by
  have h1 := okInts x fx
  rw [hx] at h1
  have := equal_flat 3 4 25 _ _ _ w flat_chg (by kernel_rfl) h1 h1 (formed_of (by kernel_rfl) (by kernel_rfl) h1) (formed_of (by kernel_rfl) (by kernel_rfl) h1) 9996
  rwa [sameB_refl] at this
theorem chg_neq_no {d t t' : Nat} {ty : TypeId} {ps : String} {af : Array Edge} {a : Act} {w : World} {ops : Array Oper} {rest : List Oper} {R : Act → Prop} {x : List Int} (hx : a.eval (.tmp t) = .agg (ints x).toArray) (hy : a.eval (.tmp t') = .agg (ints x).toArray) (h1 : OkAll (List.replicate 9 (some .i64)) (ints x))
    (h : wpStill Try.prog ops w R rest (a.put (some d) (.bool false))) : wpStill Try.prog ops w R (⟨some d, .binOp .neq 25 (.tmp t) (.tmp t') 25, ty, ps, af, none⟩ :: rest) a :=
  st_run rfl (run_op_cmp rfl hx hy (by kernel_rfl) (by rw [neq_flat 3 4 25 _ _ _ w flat_chg (by kernel_rfl) (by kernel_rfl) (by kernel_rfl) (by decide) h1 h1, sameB_refl]; rfl)) h
theorem chAt_fits {L : List Int} {i : Nat} (hf : ∀ k, fits (L.getD k 0) = true) : ∀ k, fits ((chAt L i).getD k 0) = true := fun k => by
  by_cases hk : k < 9
  · rw [chAt_get hk]; exact hf _
  · rw [List.getD_eq_getElem?_getD, List.getElem?_eq_none (by unfold chAt; rw [List.length_take]; omega)]; rfl
theorem chAt_ok {L : List Int} {n i : Nat} (hl : L.length = n * 9) (hi : i < n) (hf : ∀ k, fits (L.getD k 0) = true) : OkAll (List.replicate 9 (some .i64)) (ints (chAt L i)) := by
  have := okInts _ (chAt_fits (L := L) (i := i) hf)
  rwa [chAt_len hl hi] at this
set_option maxRecDepth 100000 in
set_option maxHeartbeats 1000000 in
theorem changes_same (a a2 : Option Addr) (n c c2 : Nat) (L : List Int) (w : World) (hs : Sl w a n 9 (ints L)) (hs2 : Sl w a2 n 9 (ints L)) (hn : n ≤ 1000) (hf : ∀ k, fits (L.getD k 0) = true) :
    Calls Try.prog 19 #[.slice a n c, .slice a2 n c2] w fun e w' => e = .returned (.bool true) ∧ Below w.heap.size w w' := by
  have hl : Hid (L.length = n * 9) := Lib.hid (by have := hs.1; rwa [ints_len] at this)
  have HS := Lib.hid hs
  have HS2 := Lib.hid hs2
  clear hs hs2
  go_enter Try.func19, Try.ntmps19
  go_wp2_with fail
  go_loopg [5] n (fun q s5 wr => ∃ i : Nat, q + i = n ∧ s5 = .int .i64 i ∧ Hid (Below w.heap.size w wr))
  case atStart => exact ⟨0, rfl, rfl, Lib.hid (Below.refl _ _)⟩
  case round =>
    obtain ⟨i, hqi, rfl, hbr⟩ := hrel
    by_cases hi : i < n
    · obtain ⟨b, off, rfl, hb, hra⟩ := chAt_at HS.out hi
      obtain ⟨b', off', rfl, hb', hrb⟩ := chAt_at HS2.out hi
      have hra2 := range_keep hra hbr.out hb
      have hrb2 := range_keep hrb hbr.out hb'
      have h9 : Hid ((chAt L i).length = 9) := Lib.hid (chAt_len hl.out hi)
      have hok := Lib.hid (chAt_ok (by have := hl.out; omega) hi hf)
      clear hra hrb
      have hi0 : (0 : Int) ≤ i := by omega
      have hin : (i : Int) < n := by omega
      go_upto_region 6 with fail
      refine wp_region_still_lit (by kernel_rfl) (by kernel_rfl) ?_
      have hra' : wr.drew.rangeAt b (off + i * 9) (ints (chAt L i)) := hra2
      have hrb' : wr.drew.rangeAt b' (off' + i * 9) (ints (chAt L i)) := hrb2
      have hbr' := Lib.hid hbr.out.drew
      change wpStill _ _ (World.drew wr) (fun a' => Exit.then _ _ _ a' (World.drew wr)) _ _
      clear hra2 hrb2 hbr
      generalize wr.drew = wr at *
      have hra := hra'
      have hrb := hrb'
      repeat (first
        | ((with_reducible apply chg_load_st); (· rfl); (· rfl); (· (first | assumption)); (· assumption); (simp only [Act.put, List.setIfInBounds_toArray, List.set_cons_zero, List.set_cons_succ]))
        | ((with_reducible apply chg_neq_no); (· rfl); (· rfl); (· exact hok.out); (simp only [Act.put, List.setIfInBounds_toArray, List.set_cons_zero, List.set_cons_succ]))
        | still_step)
      refine wpStill_nil ?_
      go_wp2_with fail
      go_roundg (gk - 1)
      case measure => omega
      case rel => exact ⟨i + 1, by omega, by go_num, hbr'⟩
    · have hi4 : (n : Int) ≤ i := by omega
      go_wp2_with fail
      go_ret
      exact ⟨rfl, hbr.out⟩
end Go.Proofs.Ytalbkpahphndiaa
