/- Lists of changes, alike; the place of an Id, by the page. -/
import Derived.Test.YtcfipimhpeblbaaStm13
import Derived.Deep.DeepCutAuto
import Derived.Maps.AppendAt
import Derived.Test.YtcfipimhpeblbaaRow
import Derived.Test.YtcfipimhpeblbaaOps
import Derived.RegionTactic
import Derived.BigRegion
import Derived.ChangeAlike
namespace Go.Proofs.Ytcfipimhpeblbaa
set_option linter.unusedVariables false
set_option linter.unusedSimpArgs false
open Go.ChangeShapes Go.WideShapes Go.ChangeAt Go.RowKit
theorem cg_neqS (x : List Int) (hx : x.length = 9) (fx : ∀ k, fits (x.getD k 0) = true) (w : World) : (binOp .neq 36 (.agg (ints x).toArray) (.agg (ints x).toArray)).run Try.prog w = .ok (.bool false) w := by
  have h1 := okCgS x fx
  rw [hx] at h1
  have := neq_flat 4 6 36 _ _ _ w flatCgS (by kernel_rfl) (by kernel_rfl) (by kernel_rfl) (by decide) h1 h1
  rwa [sameB_refl] at this
theorem rAt_fits {L : List Int} {i : Nat} (hf : ∀ k, fits (L.getD k 0) = true) : ∀ k, fits ((rAt 9 L i).getD k 0) = true := fun k => by
  by_cases hk : k < 9
  · rw [rAt_get hk]; exact hf _
  · rw [List.getD_eq_getElem?_getD, List.getElem?_eq_none (by unfold rAt; rw [List.length_take]; omega)]; rfl
set_option maxRecDepth 100000 in
set_option maxHeartbeats 1000000 in
theorem changes_sameS (a a2 : Option Addr) (n c c2 : Nat) (L : List Int) (w : World) (hs : Sl w a n 9 (ints L)) (hs2 : Sl w a2 n 9 (ints L)) (hn : n ≤ 1001) (hf : ∀ k, fits (L.getD k 0) = true) :
    Calls Try.prog 15 #[.slice a n c, .slice a2 n c2] w fun e w' => e = .returned (.bool true) ∧ Below w.heap.size w w' := by
  have hl : Hid (L.length = n * 9) := Lib.hid (by have := hs.1; rwa [ints_len] at this)
  have HS := Lib.hid hs
  have HS2 := Lib.hid hs2
  clear hs hs2
  go_enter Try.func15, Try.ntmps15
  go_wp2_with fail
  go_loopg [5] n (fun q s5 wr => ∃ i : Nat, q + i = n ∧ s5 = .int .i64 i ∧ Hid (Below w.heap.size w wr))
  case atStart => exact ⟨0, rfl, rfl, Lib.hid (Below.refl _ _)⟩
  case round =>
    obtain ⟨i, hqi, rfl, hbr⟩ := hrel
    by_cases hi : i < n
    · obtain ⟨b, off, rfl, hb, hra⟩ := rAt_at (HS.out.keep hbr.out) hi
      obtain ⟨b', off', rfl, hb', hrb⟩ := rAt_at (HS2.out.keep hbr.out) hi
      have TO : RowT 36 (ints (rAt 9 L i)).length := by rw [ints_len, rAt_len hl.out hi]; exact rowChg
      have NE := Lib.hid (fun w => cg_neqS (rAt 9 L i) (rAt_len hl.out hi) (rAt_fits hf) w)
      have hi0 : (0 : Int) ≤ i := by omega
      have hin : (i : Int) < n := by omega
      generalize ints (rAt 9 L i) = X at *
      go_upto_region 6 with fail
      refine wp_region_still_lit (by kernel_rfl) (by kernel_rfl) ?_
      have hra' : wr.drew.rangeAt b (off + i * 9) X := hra
      have hrb' : wr.drew.rangeAt b' (off' + i * 9) X := hrb
      have hbr' := Lib.hid hbr.out.drew
      change wpStill _ _ (World.drew wr) (fun a' => Exit.then _ _ _ a' (World.drew wr)) _ _
      clear hra hrb hbr
      generalize wr.drew = wr at *
      have hra := hra'
      have hrb := hrb'
      repeat (first
        | ((with_reducible refine lds_rowG hra TO ?_ ?_ ?_); (· rfl); (· rfl); (simp only [Act.put, List.setIfInBounds_toArray, List.set_cons_zero, List.set_cons_succ]))
        | ((with_reducible refine lds_rowG hrb TO ?_ ?_ ?_); (· rfl); (· rfl); (simp only [Act.put, List.setIfInBounds_toArray, List.set_cons_zero, List.set_cons_succ]))
        | ((with_reducible refine cmps_rowG egCgS NE.out ?_ ?_ ?_ ?_); (· rfl); (· rfl); (· rfl); (simp only [Act.put, List.setIfInBounds_toArray, List.set_cons_zero, List.set_cons_succ]))
        | still_step)
      refine wpStill_nil ?_
      go_wp2_with fail
      go_roundg (gk - 1)
      case measure => omega
      case rel => exact ⟨i + 1, by omega, by go_num, hbr'⟩
    · have hi4 : (n : Int) ≤ i := by omega
      go_wp2_with fail
      go_ret
      exact ⟨rfl, hbr.out⟩
set_option maxRecDepth 100000 in
set_option maxHeartbeats 2000000 in
theorem rfindS_any (a : Option Addr) (n c : Nat) (L : List Int) (r q : Int) (w : World) (HS : Hid (Sl w a n 9 (ints L))) (hf : Hid (∀ k, fits (L.getD k 0) = true)) (hr : fits r = true) (hq : fits q = true) (hn : n ≤ 1000) :
    Calls Try.prog 28 #[.slice a n c, .agg #[.int .i64 r, .int .i64 q]] w fun e w' => e = .returned (.int .i64 (idxC L r q n)) ∧ Below w.heap.size w w' := by
  have HB := Lib.hid ((Below.refl w.heap.size w).alloc (Nat.le_refl _) (.cells #[.int .i64 r, .int .i64 q] 34))
  have A := Lib.hid (Blk.new w #[.int .i64 r, .int .i64 q] 34)
  have ST := Lib.hid (fun i => @idxC_step L r q i)
  have HT := Lib.hid (fun i (h : idxC L r q i = -1) (hb : hitC L r q i = true) => idxC_hit h hb n)
  have HL : Hid (L.length = n * 9) := Lib.hid (by have := HS.out.1; rwa [ints_len] at this)
  have NE := Lib.hid (fun i w => id_eqlS (hf.out (i * 9)) (hf.out (i * 9 + 1)) hr hq w)
  have TC : RowT 34 (ints [r, q]).length := rowIdS
  clear hr hq
  go_enter Try.func28, Try.ntmps28
  go_upto_region 2 with fail
  generalize hg0 : w.heap.size = g0 at *
  have HG0 := Lib.hid hg0
  have HS1 := Lib.hid (HS.out.keep (hg0.symm ▸ HB.out))
  generalize w.alloc (.cells #[.int .i64 r, .int .i64 q] 34) = w1 at *
  clear hg0
  go_loopg [5] n (fun q' s5 wr => ∃ i : Nat, q' + i = n ∧ s5 = .int .i64 i ∧ Hid (Below w1.heap.size w1 wr) ∧ Hid (idxC L r q i = -1))
  case atStart => exact ⟨0, rfl, rfl, Lib.hid (Below.refl _ _), Lib.hid rfl⟩
  case round =>
    obtain ⟨i, hqi, rfl, hbr, hpre⟩ := hrel
    by_cases hi : i < n
    · obtain ⟨b, off, rfl, hb, hra0⟩ := rAt_at (HS1.out.keep hbr.out) hi
      have hra : wr.rangeAt b (off + i * 9) (ints [L.getD (i * 9) 0, L.getD (i * 9 + 1) 0]) := fun j v hv => hra0 j v (by
        rw [← ids_of HL.out hi] at hv
        unfold ints at hv ⊢
        rw [List.map_take, List.getElem?_take] at hv
        split at hv
        · exact hv
        · cases hv)
      have hrc := (A.out.keep hbr.out A.out.lt).range 0 (ints [r, q]) rfl
      have TO : RowT 34 (ints [L.getD (i * 9) 0, L.getD (i * 9 + 1) 0]).length := rowIdS
      have N2 := Lib.hid (NE.out i)
      have hi0 : (0 : Int) ≤ i := by omega
      have hin : (i : Int) < n := by omega
      have hs := Lib.hid (ST.out i hpre.out)
      have ht := Lib.hid (HT.out i hpre.out)
      obtain ⟨hv, hhv⟩ : ∃ v, v = hitC L r q i := ⟨_, rfl⟩
      have HV : Hid (decide (L.getD (i * 9) 0 = r ∧ L.getD (i * 9 + 1) 0 = q) = hv) := Lib.hid hhv.symm
      rw [← hhv] at hs ht
      rw [HV.out] at N2
      clear hra0 hhv HV
      generalize ints [L.getD (i * 9) 0, L.getD (i * 9 + 1) 0] = X at *
      generalize ints [r, q] = Y at *
      go_upto_region 4 with fail
      refine wp_region_still_lit (by kernel_rfl) (by kernel_rfl) ?_
      have hra' : wr.drew.rangeAt b (off + i * 9) X := hra
      have hrb' : wr.drew.rangeAt g0 0 Y := hrc
      have hbr' := Lib.hid hbr.out.drew
      change wpStill _ _ (World.drew wr) (fun a' => Exit.then _ _ _ a' (World.drew wr)) _ _
      clear hra hrc hbr
      generalize wr.drew = wr at *
      have hra := hra'
      have hrb := hrb'
      repeat (first
        | ((with_reducible refine lds_rowG hra TO ?_ ?_ ?_); (· rfl); (· rfl); (simp only [Act.put, List.setIfInBounds_toArray, List.set_cons_zero, List.set_cons_succ]))
        | ((with_reducible refine lds_rowG hrb TC ?_ ?_ ?_); (· rfl); (· rfl); (simp only [Act.put, List.setIfInBounds_toArray, List.set_cons_zero, List.set_cons_succ]))
        | ((with_reducible refine cmps_rowG egIdS N2.out ?_ ?_ ?_ ?_); (· rfl); (· rfl); (· rfl); (simp only [Act.put, List.setIfInBounds_toArray, List.set_cons_zero, List.set_cons_succ]))
        | still_step)
      refine wpStill_nil ?_
      rcases hv with _ | _
      · have hp2 := Lib.hid (hs.out rfl)
        clear hs ht
        go_wp2_with fail
        go_roundg (gk - 1)
        case measure => omega
        case rel => exact ⟨i + 1, by omega, by go_num, hbr', hp2⟩
      · have HR2 := Lib.hid (ht.out rfl hi)
        clear hs ht
        go_wp2_with fail
        go_ret
        have hge := HG0.out
        subst hge
        exact ⟨by rw [HR2.out]; rfl, HB.out.trans (hbr'.out.mono HB.out.size)⟩
    · have hin : ¬ (i : Int) < n := by omega
      have hie : i = n := by omega
      have HR2 : Hid (idxC L r q n = -1) := Lib.hid (hie ▸ hpre.out)
      clear hie
      go_wp2_with fail
      go_ret
      have hge := HG0.out
      subst hge
      exact ⟨by rw [HR2.out]; rfl, HB.out.trans (hbr.out.mono HB.out.size)⟩
end Go.Proofs.Ytcfipimhpeblbaa
