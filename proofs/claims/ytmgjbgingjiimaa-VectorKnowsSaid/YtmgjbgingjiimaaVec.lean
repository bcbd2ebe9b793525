/- The contracts of vector. -/
import Derived.Test.YtmgjbgingjiimaaBlk
import Derived.Test.YtmgjbgingjiimaaOps
import Derived.Deep.LoopGhost
import Derived.Deep.QuietTactic
import Derived.BigQuiet
import Derived.Lib.SmallJoins
import Derived.StillTailTactics
namespace Go.Proofs.Ytmgjbgingjiimaa
set_option linter.unusedVariables false
set_option linter.unusedSimpArgs false
open Go.ChangeShapes Go.WideShapes Go.ChangeAt Go.RowKit
theorem vec_size : (Try.prog.info? 53).map (·.size) = some 4 := by kernel_rfl
theorem vec_load {d t g o : Nat} {ty : TypeId} {ps : String} {af : Array Edge} {a : Act} {w : World} {ops : Array Oper} {rest : List Oper} {Q : Exit → Act → World → Prop} {v : List Int}
    (hx : a.eval (.tmp t) = .pointer (some ⟨g, o, none⟩)) (hb : w.rangeAt g o (ints v)) (hv : Hid (v.length = 4)) (h : wpList Try.prog ops Q rest (a.put (some d) (.agg (ints v).toArray)) w) :
    wpList Try.prog ops Q (⟨some d, .load 53 (.tmp t), ty, ps, af, none⟩ :: rest) a w :=
  ls_run rfl (run_op_load rfl hx hb Try.underlying53 rfl (by rw [vec_size, ints_len, hv.out])) h
theorem vec_load_g {d t g o i : Nat} {b : Bool} {ty : TypeId} {ps : String} {af : Array Edge} {a : Act} {w : World} {ops : Array Oper} {rest : List Oper} {Q : Exit → Act → World → Prop} {v : List Int}
    (hx : a.eval (.tmp t) = .pointer (some ⟨g, o, none⟩)) (hw : Region.wanted ⟨some d, .load 53 (.tmp t), ty, ps, af, some (i, b)⟩ (yielded ops a.tmps) = true) (hb : w.rangeAt g o (ints v)) (hv : Hid (v.length = 4)) (h : wpList Try.prog ops Q rest (a.put (some d) (.agg (ints v).toArray)) w) :
    wpList Try.prog ops Q (⟨some d, .load 53 (.tmp t), ty, ps, af, some (i, b)⟩ :: rest) a w :=
  ls_run_g hw (run_op_load rfl hx hb Try.underlying53 rfl (by rw [vec_size, ints_len, hv.out])) h
theorem vec_load_st {d t g o : Nat} {gd : Option (Nat × Bool)} {ty : TypeId} {ps : String} {af : Array Edge} {a : Act} {w : World} {ops : Array Oper} {rest : List Oper} {R : Act → Prop} {v : List Int}
    (hx : a.eval (.tmp t) = .pointer (some ⟨g, o, none⟩)) (hw : Region.wanted ⟨some d, .load 53 (.tmp t), ty, ps, af, gd⟩ (yielded ops a.tmps) = true) (hb : w.rangeAt g o (ints v)) (hv : Hid (v.length = 4)) (h : wpStill Try.prog ops w R rest (a.put (some d) (.agg (ints v).toArray))) :
    wpStill Try.prog ops w R (⟨some d, .load 53 (.tmp t), ty, ps, af, gd⟩ :: rest) a :=
  st_run hw (run_op_load rfl hx hb Try.underlying53 rfl (by rw [vec_size, ints_len, hv.out])) h
theorem vec_store {t t' g T : Nat} {ty : TypeId} {ps : String} {af : Array Edge} {a : Act} {w : World} {ops : Array Oper} {rest : List Oper} {Q : Exit → Act → World → Prop} {v : List Int} {old : List Value}
    (hx : a.eval (.tmp t) = .pointer (some ⟨g, 0, none⟩)) (hy : a.eval (.tmp t') = .agg (ints v).toArray) (hb : Blk w g old T) (hl : old.length = 4) (hv : Hid (v.length = 4)) (h : wpList Try.prog ops Q rest (a.put none undef) (w.setCells g 0 (ints v))) :
    wpList Try.prog ops Q (⟨none, .store 53 (.tmp t) (.tmp t'), ty, ps, af, none⟩ :: rest) a w :=
  wpList_store_mid rfl 53 (.tmp t) (.tmp t') rfl g 0 _ hx hy (hb.there 0 _ (by rw [List.size_toArray, ints_len, hv.out, hl]; decide)) (by rw [vec_size, List.size_toArray, ints_len, hv.out]) (all_oneCell_toArray (fun u hu => ints_one hu)) (by rw [List.toList_toArray]; exact h)
theorem vec_store_new {t t' g T : Nat} {ty : TypeId} {ps : String} {af : Array Edge} {a : Act} {w : World} {ops : Array Oper} {rest : List Oper} {Q : Exit → Act → World → Prop} {v : List Int} {old : Array Value}
    (hx : a.eval (.tmp t) = .pointer (some ⟨g, 0, none⟩)) (hg : g = w.heap.size) (hy : a.eval (.tmp t') = .agg (ints v).toArray) (hl : old.size = 4) (hv : Hid (v.length = 4)) (h : wpList Try.prog ops Q rest (a.put none undef) (w.alloc (.cells (ints v).toArray T))) :
    wpList Try.prog ops Q (⟨none, .store 53 (.tmp t) (.tmp t'), ty, ps, af, none⟩ :: rest) a (w.alloc (.cells old T)) := by
  subst hg
  refine vec_store hx hy (Blk.new w old T) (by simpa using hl) hv ?_
  rw [setAll_new w old _ T (by rw [ints_len, hv.out, hl])]
  exact h
theorem Blk.vec {w : World} {g t : Nat} {v : List Int} (h : Blk w g (ints v) t) (hv : Hid (v.length = 4)) : w.rangeAt g 0 (ints v) := h.range 0 _ (by simp)
theorem Blk.vcell {w : World} {g t : Nat} {v : List Int} (h : Blk w g (ints v) t) (hv : Hid (v.length = 4)) {k : Nat} (hk : k < 4) : w.cell? ⟨g, k, none⟩ = some (.int .i64 (v.getD k 0)) := (h.cell k).trans (ints_get v k (by rw [hv.out]; exact hk))
/-- none of the first k is less. -/
def covTo (v u : List Int) : Nat → Bool
  | 0 => true
  | k + 1 => covTo v u k && decide (u.getD k 0 ≤ v.getD k 0)
theorem covTo_mono {v u : List Int} {k : Nat} : ∀ {n}, k < n → v.getD k 0 < u.getD k 0 → covTo v u n = false
  | 0, h, _ => absurd h (Nat.not_lt_zero _)
  | n + 1, h, hl => by
    unfold covTo
    by_cases hk : k = n
    · subst hk
      rw [decide_eq_false (by omega), Bool.and_false]
    · rw [covTo_mono (by omega) hl, Bool.false_and]
def cov (v u : List Int) : Bool := covTo v u 4
set_option maxHeartbeats 1000000 in
theorem covers_any (v u : List Int) (w : World) (hv : Hid (v.length = 4)) (hu : Hid (u.length = 4)) :
    Calls Try.prog 39 #[.agg (ints v).toArray, .agg (ints u).toArray] w fun e w' => e = .returned (.bool (cov v u)) ∧ Below w.heap.size w w' := by
  have A1 := (Blk.new w (ints v).toArray 53).alloc (.cells (ints u).toArray 53)
  have B1 := Blk.new (w.alloc (.cells (ints v).toArray 53)) (ints u).toArray 53
  rw [List.toList_toArray] at A1 B1
  rw [show (w.alloc (.cells (ints v).toArray 53)).heap.size = w.heap.size + 1 by simp] at B1
  have hb1 := Lib.hid (((Below.refl w.heap.size w).alloc (Nat.le_refl _) (.cells (ints v).toArray 53)).alloc (by simp) (.cells (ints u).toArray 53))
  go_enter Try.func39, Try.ntmps39
  go_upto_region 1 with fail
  generalize (w.alloc (.cells (ints v).toArray 53)).alloc (.cells (ints u).toArray 53) = W at *
  have HA := Lib.hid A1
  have HB := Lib.hid B1
  clear A1 B1
  go_wp2_with fail
  go_loopg [5, 6] 4 (fun q s5 s6 wr => ∃ i : Nat, q + i = 4 ∧ s6 = .int .i64 i ∧ covTo v u i = true ∧ Hid (Below W.heap.size W wr))
  case atStart => exact ⟨0, rfl, rfl, rfl, Lib.hid (Below.refl _ _)⟩
  case round =>
    obtain ⟨i, hqi, rfl, hct0, hbr⟩ := hrel
    have hct := Lib.hid hct0
    clear hct0
    by_cases hi : i < 4
    · have A2 := (HA.out.keep hbr.out HA.out.lt)
      have B2 := (HB.out.keep hbr.out HB.out.lt)
      have c1 := A2.vcell hv hi
      have c2 := B2.vcell hu hi
      have hi0 : (0 : Int) ≤ i := by omega
      have hi4 : (i : Int) < 4 := by omega
      obtain ⟨x, hx⟩ : ∃ x, v.getD i 0 = x := ⟨_, rfl⟩
      obtain ⟨y, hy⟩ : ∃ y, u.getD i 0 = y := ⟨_, rfl⟩
      rw [hx] at c1
      rw [hy] at c2
      have HX := Lib.hid hx
      have HY := Lib.hid hy
      clear hx hy A2 B2
      by_cases hl : x < y
      · go_wp2_with fail
        go_quiet (fail)
        go_wp2_with fail
        go_ret
        have e : cov v u = false := covTo_mono hi (by rw [HX.out, HY.out]; exact hl)
        rw [e]
        exact ⟨rfl, hb1.out.trans ((hbr.out.trans (Go.Joins.below_draws _ _ _)).mono hb1.out.size)⟩
      · have hl' : y ≤ x := by omega
        have e : covTo v u (i + 1) = true := by unfold covTo; rw [hct.out, HX.out, HY.out, decide_eq_true hl']; rfl
        have HE := Lib.hid e
        clear e
        go_wp2_with fail
        go_quiet (fail)
        go_wp2_with fail
        go_roundg (gk - 1)
        case measure => omega
        case rel => exact ⟨i + 1, by omega, by go_num, HE.out, Lib.hid (hbr.out.trans (Go.Joins.below_draws _ _ _))⟩
    · have hi4 : (4 : Int) ≤ i := by omega
      go_wp2_with fail
      go_ret
      obtain rfl : i = 4 := by omega
      exact ⟨by rw [show cov v u = true from hct.out]; rfl, hb1.out.trans (hbr.out.mono hb1.out.size)⟩
/-- the first k are joined. -/
def joinTo (v u : List Int) : Nat → List Int
  | 0 => v
  | k + 1 => (joinTo v u k).set k (max (v.getD k 0) (u.getD k 0))
theorem joinTo_len (v u : List Int) : ∀ k, (joinTo v u k).length = v.length
  | 0 => rfl
  | k + 1 => by simp [joinTo, joinTo_len v u k]
theorem joinTo_hi (v u : List Int) : ∀ k j, k ≤ j → (joinTo v u k).getD j 0 = v.getD j 0
  | 0, _, _ => rfl
  | k + 1, j, h => by
    have := joinTo_hi v u k j (by omega)
    rw [← this, List.getD_eq_getElem?_getD, List.getD_eq_getElem?_getD]
    show ((joinTo v u k).set k _)[j]?.getD 0 = _
    rw [List.getElem?_set_ne (by omega)]
theorem joinTo_lo (v u : List Int) : ∀ k j, j < k → j < v.length → (joinTo v u k).getD j 0 = max (v.getD j 0) (u.getD j 0)
  | 0, _, h, _ => absurd h (Nat.not_lt_zero _)
  | k + 1, j, h, hl => by
    show ((joinTo v u k).set k _).getD j 0 = _
    by_cases e : j = k
    · subst e
      rw [List.getD_eq_getElem?_getD, List.getElem?_set_self (by rw [joinTo_len]; exact hl)]; rfl
    · rw [List.getD_eq_getElem?_getD, List.getElem?_set_ne (fun q => e q.symm), ← List.getD_eq_getElem?_getD, joinTo_lo v u k j (by omega) hl]
def join4 (v u : List Int) : List Int := joinTo v u 4
set_option maxHeartbeats 1000000 in
theorem join_any (v u : List Int) (w : World) (hv : Hid (v.length = 4)) (hu : Hid (u.length = 4)) :
    Calls Try.prog 38 #[.agg (ints v).toArray, .agg (ints u).toArray] w fun e w' => e = .returned (.agg (ints (join4 v u)).toArray) ∧ Below w.heap.size w w' := by
  have A1 := ((Blk.new w (ints v).toArray 53).alloc (.cells (ints u).toArray 53)).alloc (.cells #[.int .i64 0, .int .i64 0, .int .i64 0, .int .i64 0] 53)
  have B1 := (Blk.new (w.alloc (.cells (ints v).toArray 53)) (ints u).toArray 53).alloc (.cells #[.int .i64 0, .int .i64 0, .int .i64 0, .int .i64 0] 53)
  have C1 := Blk.new ((w.alloc (.cells (ints v).toArray 53)).alloc (.cells (ints u).toArray 53)) #[.int .i64 0, .int .i64 0, .int .i64 0, .int .i64 0] 53
  rw [List.toList_toArray] at A1 B1
  rw [show (w.alloc (.cells (ints v).toArray 53)).heap.size = w.heap.size + 1 by simp] at B1
  rw [show ((w.alloc (.cells (ints v).toArray 53)).alloc (.cells (ints u).toArray 53)).heap.size = w.heap.size + 2 by simp] at C1
  have hb1 := Lib.hid ((((Below.refl w.heap.size w).alloc (Nat.le_refl _) (.cells (ints v).toArray 53)).alloc (by simp) (.cells (ints u).toArray 53)).alloc (by simp; omega) (.cells #[.int .i64 0, .int .i64 0, .int .i64 0, .int .i64 0] 53))
  go_enter Try.func38, Try.ntmps38
  go_upto_region 1 with fail
  generalize ((w.alloc (.cells (ints v).toArray 53)).alloc (.cells (ints u).toArray 53)).alloc (.cells #[.int .i64 0, .int .i64 0, .int .i64 0, .int .i64 0] 53) = W at *
  have HA := Lib.hid A1
  have HB := Lib.hid B1
  have HC := Lib.hid C1
  clear A1 B1 C1
  go_wp2_with fail
  go_loopg [5, 6] 4 (fun q s5 s6 wr => ∃ i : Nat, q + i = 4 ∧ s6 = .int .i64 i ∧ Hid (Blk wr w.heap.size (ints (joinTo v u i)) 53 ∧ Blk wr (w.heap.size + 1) (ints u) 53 ∧ (∃ cs, cs.length = 4 ∧ Blk wr (w.heap.size + 2) cs 53) ∧ Below w.heap.size w wr))
  case atStart => exact ⟨0, rfl, rfl, Lib.hid ⟨HA.out, HB.out, ⟨_, rfl, HC.out⟩, hb1.out⟩⟩
  case round =>
    obtain ⟨i, hqi, rfl, hbr⟩ := hrel
    by_cases hi : i < 4
    · have hj : Hid ((joinTo v u i).length = 4) := Lib.hid (by rw [joinTo_len]; exact hv.out)
      have c1 := hbr.out.1.vcell hj hi
      have c2 := hbr.out.2.1.vcell hu hi
      rw [joinTo_hi v u i i (Nat.le_refl _)] at c1
      have hi0 : (0 : Int) ≤ i := by omega
      have hi4 : (i : Int) < 4 := by omega
      have HS := Lib.hid (fun m => hbr.out.1.set i (.int .i64 m))
      obtain ⟨x, hx⟩ : ∃ x, v.getD i 0 = x := ⟨_, rfl⟩
      obtain ⟨y, hy⟩ : ∃ y, u.getD i 0 = y := ⟨_, rfl⟩
      rw [hx] at c1
      rw [hy] at c2
      have HX := Lib.hid hx
      have HY := Lib.hid hy
      clear hx hy
      have HB2 := Lib.hid (fun m => (hbr.out.2.1.set_other (show w.heap.size + 1 ≠ w.heap.size by omega) i (.int .i64 m)))
      have HC2 := Lib.hid hbr.out.2.2.1
      have fz := hbr.out.1.froz i
      go_wp2_with fail
      refine wp_region_still_tail 9 (by kernel_rfl) (by kernel_rfl) ?_
      simp only [List.take_succ_cons, List.take_zero, List.drop_succ_cons, List.drop_zero]
      change wpStill _ _ (World.drew wr) (fun a' => wpList _ _ _ _ a' (World.drew wr)) _ _
      by_cases hl : x < y
      · repeat still_step
        refine wpStill_nil ?_
        go_wp2_with fail
        go_roundg (gk - 1)
        case measure => omega
        case rel =>
          refine ⟨i + 1, by omega, by go_num, Lib.hid ⟨?_, HB2.out _, ?_, (below_set hbr.out.2.2.2 (Nat.le_refl _) i _).drew⟩⟩
          · have := (HS.out y).drew
            rw [ints_set] at this
            have em : max (v.getD i 0) (u.getD i 0) = y := by rw [HX.out, HY.out]; omega
            rw [show joinTo v u (i + 1) = (joinTo v u i).set i y by rw [← em]; rfl]
            exact this
          · obtain ⟨cs, h1, h2⟩ := HC2.out
            exact ⟨cs, h1, h2.set_other (by omega) _ _⟩
      · repeat still_step
        refine wpStill_nil ?_
        go_wp2_with fail
        go_roundg (gk - 1)
        case measure => omega
        case rel =>
          refine ⟨i + 1, by omega, by go_num, Lib.hid ⟨?_, HB2.out _, ?_, (below_set hbr.out.2.2.2 (Nat.le_refl _) i _).drew⟩⟩
          · have := (HS.out x).drew
            rw [ints_set] at this
            have em : max (v.getD i 0) (u.getD i 0) = x := by rw [HX.out, HY.out]; omega
            rw [show joinTo v u (i + 1) = (joinTo v u i).set i x by rw [← em]; rfl]
            exact this
          · obtain ⟨cs, h1, h2⟩ := HC2.out
            exact ⟨cs, h1, h2.set_other (by omega) _ _⟩
    · have hi4 : (4 : Int) ≤ i := by omega
      have hj : Hid ((joinTo v u i).length = 4) := Lib.hid (by rw [joinTo_len]; exact hv.out)
      have HA3 := hbr.out.1
      have HC3 := hbr.out.2.2.1
      obtain ⟨cs, hcs, HC3⟩ := HC3
      go_wp2_with (first
    | ((with_reducible apply vec_load); (· rfl); (· (first | assumption | exact Blk.vec (by assumption) (by assumption))); (· assumption); (simp only [Act.put, List.setIfInBounds_toArray, List.set_cons_zero, List.set_cons_succ]))
    | ((with_reducible apply vec_store); (· rfl); (· rfl); (· assumption); (· first | rfl | assumption); (· assumption); (simp only [Act.put, List.setIfInBounds_toArray, List.set_cons_zero, List.set_cons_succ])))
      obtain rfl : i = 4 := by omega
      have C5 := HC3.setAll (ints (joinTo v u 4)) (by rw [ints_len, hj.out, hcs])
      exact ret_cell (p := 4) rfl rfl C5 Try.underlying53 rfl (by rw [vec_size, ints_len, hj.out]) rfl ⟨rfl, below_sets (by omega) _ _ _ hbr.out.2.2.2⟩
end Go.Proofs.Ytmgjbgingjiimaa
