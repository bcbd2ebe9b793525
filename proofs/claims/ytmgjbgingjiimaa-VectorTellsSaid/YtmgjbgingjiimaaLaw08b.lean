/- Two vectors joined. -/
import Derived.Test.YtmgjbgingjiimaaLaw08
namespace Go.Proofs.Ytmgjbgingjiimaa
set_option linter.unusedVariables false
set_option linter.unusedSimpArgs false
open Go.ChangeShapes Go.WideShapes Go.ChangeAt Go.RowKit
theorem covTo_iff (v u : List Int) : ∀ n, covTo v u n = true ↔ ∀ k, k < n → u.getD k 0 ≤ v.getD k 0
  | 0 => ⟨fun _ k h => absurd h (Nat.not_lt_zero _), fun _ => rfl⟩
  | n + 1 => by
    unfold covTo
    rw [Bool.and_eq_true, decide_eq_true_eq, covTo_iff v u n]
    constructor
    · rintro ⟨h1, h2⟩ k hk
      rcases Nat.lt_succ_iff_lt_or_eq.1 hk with h | rfl
      · exact h1 k h
      · exact h2
    · intro h
      exact ⟨fun k hk => h k (by omega), h n (by omega)⟩
theorem cov_iff (v u : List Int) : cov v u = true ↔ ∀ k, k < 4 → u.getD k 0 ≤ v.getD k 0 := covTo_iff v u 4
theorem cov_refl (v : List Int) : cov v v = true := (cov_iff v v).2 fun _ _ => Int.le_refl _
theorem join4_get {v u : List Int} (hv : v.length = 4) {k : Nat} (hk : k < 4) : (join4 v u).getD k 0 = max (v.getD k 0) (u.getD k 0) := joinTo_lo v u 4 k hk (by omega)
theorem cov_join_l {v u : List Int} (hv : v.length = 4) : cov (join4 v u) v = true := (cov_iff _ _).2 fun k hk => by rw [join4_get hv hk]; omega
theorem cov_join_r {v u : List Int} (hv : v.length = 4) : cov (join4 v u) u = true := (cov_iff _ _).2 fun k hk => by rw [join4_get hv hk]; omega
theorem cov_join {v u c : List Int} (hv : v.length = 4) : cov c (join4 v u) = (cov c v && cov c u) := by
  rw [Bool.eq_iff_iff, Bool.and_eq_true, cov_iff, cov_iff, cov_iff]
  constructor
  · intro h
    exact ⟨fun k hk => by have := h k hk; rw [join4_get hv hk] at this; omega, fun k hk => by have := h k hk; rw [join4_get hv hk] at this; omega⟩
  · rintro ⟨h1, h2⟩ k hk
    rw [join4_get hv hk]
    have := h1 k hk
    have := h2 k hk
    omega
theorem join4_len (v u : List Int) (hv : v.length = 4) : (join4 v u).length = 4 := (joinTo_len v u 4).trans hv
/-- a vector that came in. -/
theorem Arg.vec4 {w : World} {v : Value} (h : Arg Try.prog w 53 v) : ∃ l : List Int, l.length = 4 ∧ v = .agg (ints l).toArray ∧ ∀ k, fits (l.getD k 0) = true := by
  obtain ⟨cs, rfl, h2⟩ := h.flat_array Try.underlying53 flat_vec
  obtain ⟨l, h3, h4, h5⟩ := ints_of_ok 4 _ h2
  refine ⟨l, h3, by rw [show ints l = cs.toList from h4.symm, Array.toArray_toList], fun k => ?_⟩
  by_cases hk : k < l.length
  · rw [List.getD_eq_getElem?_getD, List.getElem?_eq_getElem hk]
    exact fits_wf (h5 _ (List.getElem_mem hk))
  · rw [List.getD_eq_getElem?_getD, List.getElem?_eq_none (by omega)]; rfl
theorem cov_is {v u : List Int} {b : Bool} (hv : Hid (v.length = 4)) (hu : Hid (u.length = 4)) (h : cov v u = b) (w : World) : Calls Try.prog 39 #[.agg (ints v).toArray, .agg (ints u).toArray] w fun e w' => e = .returned (.bool b) ∧ Below w.heap.size w w' := by
  have := covers_any v u w hv hu
  rwa [h] at this
/-- the blocks of the walk. -/
structure Four (w0 : Nat) (w : World) (a b c : List Int) : Prop where
  a : Blk w w0 (ints a) 53
  b : Blk w (w0 + 1) (ints b) 53
  c : Blk w (w0 + 2) (ints c) 53
theorem Four.alloc {w0 : Nat} {w : World} {a b c : List Int} (h : Four w0 w a b c) (o : Obj) : Four w0 (w.alloc o) a b c := ⟨h.a.alloc o, h.b.alloc o, h.c.alloc o⟩
theorem Four.keep {w0 B : Nat} {w w' : World} {a b c : List Int} (h : Four w0 w a b c) (hb : Below B w w') (hB : w0 + 3 ≤ B) : Four w0 w' a b c := ⟨h.a.keep hb (by omega), h.b.keep hb (by omega), h.c.keep hb (by omega)⟩
set_option maxHeartbeats 1000000 in
theorem joins_walk (a b c : List Int) (w : World) (ha : Hid (a.length = 4)) (hb : Hid (b.length = 4)) (hc : Hid (c.length = 4)) :
    Calls Try.prog 10 #[.agg (ints a).toArray, .agg (ints b).toArray, .agg (ints c).toArray] w fun e w' => e = .returned (.bool true) ∧ Below w.heap.size w w' := by
  have A1 := ((Blk.new w (ints a).toArray 53).alloc (.cells (ints b).toArray 53)).alloc (.cells (ints c).toArray 53)
  have B1 := (Blk.new (w.alloc (.cells (ints a).toArray 53)) (ints b).toArray 53).alloc (.cells (ints c).toArray 53)
  have C1 := Blk.new ((w.alloc (.cells (ints a).toArray 53)).alloc (.cells (ints b).toArray 53)) (ints c).toArray 53
  rw [List.toList_toArray] at A1 B1 C1
  rw [show (w.alloc (.cells (ints a).toArray 53)).heap.size = w.heap.size + 1 by simp] at B1
  rw [show ((w.alloc (.cells (ints a).toArray 53)).alloc (.cells (ints b).toArray 53)).heap.size = w.heap.size + 2 by simp] at C1
  have F1 := Lib.hid (Four.mk A1 B1 C1)
  have hb1 := Lib.hid ((((Below.refl w.heap.size w).alloc (Nat.le_refl _) (.cells (ints a).toArray 53)).alloc (by simp) (.cells (ints b).toArray 53)).alloc (by simp; omega) (.cells (ints c).toArray 53))
  have hz1 : (((w.alloc (.cells (ints a).toArray 53)).alloc (.cells (ints b).toArray 53)).alloc (.cells (ints c).toArray 53)).heap.size = w.heap.size + 3 := by simp
  clear A1 B1 C1
  go_enter Try.func10, Try.ntmps10
  go_upto_region 1 with fail
  generalize ((w.alloc (.cells (ints a).toArray 53)).alloc (.cells (ints b).toArray 53)).alloc (.cells (ints c).toArray 53) = W at *
  go_wp2_with fail
  refine (alive08 _).mono ?_
  rintro e w2 ⟨rfl, hb2⟩
  have F2 := Lib.hid (F1.out.keep hb2 (Nat.le_of_eq hz1.symm))
  have hz2 : w.heap.size + 3 ≤ w2.heap.size := by have := hb2.size; omega
  have HB2 := Lib.hid (hb1.out.trans (hb2.mono (by omega)))
  clear hb2 hb1 F1 hz1
  have fa := F2.out.a.vec ha
  have fb := F2.out.b.vec hb
  go_wp2_with (first
    | ((with_reducible apply vec_load); (· rfl); (· (first | assumption | exact Blk.vec (by assumption) (by assumption))); (· assumption); (simp only [Act.put, List.setIfInBounds_toArray, List.set_cons_zero, List.set_cons_succ]))
    | ((with_reducible apply vec_load_g); (· rfl); (· rfl); (· (first | assumption | exact Blk.vec (by assumption) (by assumption))); (· assumption); (simp only [Act.put, List.setIfInBounds_toArray, List.set_cons_zero, List.set_cons_succ])))
  refine (join_any a b _ ha hb).mono ?_
  rintro e w3 ⟨rfl, hb3⟩
  have F3 := F2.out.keep hb3 hz2
  have hz3 : w.heap.size + 3 ≤ w3.heap.size := by have := hb3.size; omega
  have HB3 := HB2.out.trans (hb3.mono (by omega))
  obtain ⟨jl, hj⟩ : ∃ l, join4 a b = l := ⟨_, rfl⟩
  have hjl : Hid (jl.length = 4) := Lib.hid (by rw [← hj]; exact join4_len a b ha.out)
  have J3 := Blk.new w3 (ints jl).toArray 53
  rw [List.toList_toArray] at J3
  have F4 := Lib.hid (F3.alloc (.cells (ints jl).toArray 53))
  have HB4 := Lib.hid (HB3.alloc (by omega) (.cells (ints jl).toArray 53))
  have hz4 : w.heap.size + 3 ≤ (w3.alloc (.cells (ints jl).toArray 53)).heap.size := by simp; omega
  have C1 := Lib.hid (fun w => cov_is hc ha (rfl : cov c a = cov c a) w)
  have C2 := Lib.hid (fun w => cov_is hc hb (rfl : cov c b = cov c b) w)
  have C3 := Lib.hid (fun w => cov_is hjl ha (show cov jl a = true by rw [← hj]; exact cov_join_l ha.out) w)
  have C4 := Lib.hid (fun w => cov_is hjl hb (show cov jl b = true by rw [← hj]; exact cov_join_r ha.out) w)
  have C5 := Lib.hid (fun w => cov_is ha ha (cov_refl a) w)
  have C6 := Lib.hid (fun w => cov_is hc hjl (show cov c jl = (cov c a && cov c b) by rw [← hj]; exact cov_join ha.out) w)
  have HJ := Lib.hid (fun k (hk : k < 4) => show jl.getD k 0 = max (a.getD k 0) (b.getD k 0) by rw [← hj]; exact join4_get ha.out hk)
  rw [hj]
  clear hj hb3 F3 F2 HB2 HB3 fa fb
  go_upto_region 4 with (first
    | ((with_reducible apply vec_store_new); (· rfl); (· first | rfl | simp); (· rfl); (· rfl); (· assumption); (simp only [Act.put, List.setIfInBounds_toArray, List.set_cons_zero, List.set_cons_succ])))
  generalize w3.alloc (.cells (ints jl).toArray 53) = w4 at *
  have J4 := Lib.hid J3
  have hzj : w3.heap.size < w4.heap.size := J3.lt
  clear J3
  go_wp2_with fail
  go_loopg [8] 4 (fun q s8 wr => ∃ i : Nat, q + i = 4 ∧ s8 = .int .i64 i ∧ Hid (Below w4.heap.size w4 wr))
  case atStart => exact ⟨0, rfl, rfl, Lib.hid (Below.refl _ _)⟩
  case round =>
    obtain ⟨i, hqi, rfl, hbr⟩ := hrel
    have F5 := Lib.hid (F4.out.keep hbr.out hz4)
    have J5 := Lib.hid (J4.out.keep hbr.out hzj)
    by_cases hi : i < 4
    · have c1 := F5.out.a.vcell ha hi
      have c2 := F5.out.b.vcell hb hi
      have c3 := J5.out.vcell hjl hi
      rw [HJ.out i hi] at c3
      have hi0 : (0 : Int) ≤ i := by omega
      have hi4 : (i : Int) < 4 := by omega
      obtain ⟨x, hx⟩ : ∃ x, a.getD i 0 = x := ⟨_, rfl⟩
      obtain ⟨y, hy⟩ : ∃ y, b.getD i 0 = y := ⟨_, rfl⟩
      rw [hx, hy] at c3
      rw [hx] at c1
      rw [hy] at c2
      clear hx hy
      by_cases hl : x < y
      · rw [show max x y = y by omega] at c3
        go_wp2_with fail
        go_quiet (fail)
        go_wp2_with fail
        go_roundg (gk - 1)
        case measure => omega
        case rel => exact ⟨i + 1, by omega, by go_num, Lib.hid (hbr.out.trans (Go.Joins.below_draws _ _ _))⟩
      · rw [show max x y = x by omega] at c3
        go_wp2_with fail
        go_quiet (fail)
        go_wp2_with fail
        go_roundg (gk - 1)
        case measure => omega
        case rel => exact ⟨i + 1, by omega, by go_num, Lib.hid (hbr.out.trans (Go.Joins.below_draws _ _ _))⟩
    · have hi4 : (4 : Int) ≤ i := by omega
      clear HJ
      have HB5 := Lib.hid (HB4.out.trans (hbr.out.mono HB4.out.size))
      have hz5 : w.heap.size + 3 ≤ wr.heap.size := by have := hbr.out.size; omega
      have hzj5 : w3.heap.size < wr.heap.size := by have := hbr.out.size; omega
      clear hbr F4 J4 HB4 hz4 hzj
      rcases hp : cov c a with _ | _ <;> rcases hq : cov c b with _ | _ <;> rw [hp] at C1 C6 <;> rw [hq] at C2 C6 <;> clear hp hq
      · skip
        have fa := F5.out.a.vec ha
        have fb := F5.out.b.vec hb
        have fc := F5.out.c.vec hc
        have fj := J5.out.vec hjl
        go_wp2_with (first
          | ((with_reducible apply vec_load); (· rfl); (· (first | assumption | exact Blk.vec (by assumption) (by assumption))); (· assumption); (simp only [Act.put, List.setIfInBounds_toArray, List.set_cons_zero, List.set_cons_succ]))
          | ((with_reducible apply vec_load_g); (· rfl); (· rfl); (· (first | assumption | exact Blk.vec (by assumption) (by assumption))); (· assumption); (simp only [Act.put, List.setIfInBounds_toArray, List.set_cons_zero, List.set_cons_succ])))
        refine (C1.out _).mono ?_
        rintro e w6 ⟨rfl, hb6⟩
        have F6 := Lib.hid (F5.out.keep hb6 hz5)
        have J6 := Lib.hid (J5.out.keep hb6 hzj5)
        have HB6 := Lib.hid (HB5.out.trans (hb6.mono HB5.out.size))
        have hz6 : w.heap.size + 3 ≤ w6.heap.size := by have := hb6.size; omega
        have hzj6 : w3.heap.size < w6.heap.size := by have := hb6.size; omega
        clear hb6 F5 J5 HB5 hz5 hzj5 fa fb fc fj C1
        have fa := F6.out.a.vec ha
        have fb := F6.out.b.vec hb
        have fc := F6.out.c.vec hc
        have fj := J6.out.vec hjl
        go_wp2_with (first
          | ((with_reducible apply vec_load); (· rfl); (· (first | assumption | exact Blk.vec (by assumption) (by assumption))); (· assumption); (simp only [Act.put, List.setIfInBounds_toArray, List.set_cons_zero, List.set_cons_succ]))
          | ((with_reducible apply vec_load_g); (· rfl); (· rfl); (· (first | assumption | exact Blk.vec (by assumption) (by assumption))); (· assumption); (simp only [Act.put, List.setIfInBounds_toArray, List.set_cons_zero, List.set_cons_succ])))
        refine (C3.out _).mono ?_
        rintro e w7 ⟨rfl, hb7⟩
        have F7 := Lib.hid (F6.out.keep hb7 hz6)
        have J7 := Lib.hid (J6.out.keep hb7 hzj6)
        have HB7 := Lib.hid (HB6.out.trans (hb7.mono HB6.out.size))
        have hz7 : w.heap.size + 3 ≤ w7.heap.size := by have := hb7.size; omega
        have hzj7 : w3.heap.size < w7.heap.size := by have := hb7.size; omega
        clear hb7 F6 J6 HB6 hz6 hzj6 fa fb fc fj C3
        have fa := F7.out.a.vec ha
        have fb := F7.out.b.vec hb
        have fc := F7.out.c.vec hc
        have fj := J7.out.vec hjl
        go_wp2_with (first
          | ((with_reducible apply vec_load); (· rfl); (· (first | assumption | exact Blk.vec (by assumption) (by assumption))); (· assumption); (simp only [Act.put, List.setIfInBounds_toArray, List.set_cons_zero, List.set_cons_succ]))
          | ((with_reducible apply vec_load_g); (· rfl); (· rfl); (· (first | assumption | exact Blk.vec (by assumption) (by assumption))); (· assumption); (simp only [Act.put, List.setIfInBounds_toArray, List.set_cons_zero, List.set_cons_succ])))
        refine (C4.out _).mono ?_
        rintro e w8 ⟨rfl, hb8⟩
        have F8 := Lib.hid (F7.out.keep hb8 hz7)
        have J8 := Lib.hid (J7.out.keep hb8 hzj7)
        have HB8 := Lib.hid (HB7.out.trans (hb8.mono HB7.out.size))
        have hz8 : w.heap.size + 3 ≤ w8.heap.size := by have := hb8.size; omega
        have hzj8 : w3.heap.size < w8.heap.size := by have := hb8.size; omega
        clear hb8 F7 J7 HB7 hz7 hzj7 fa fb fc fj C4
        have fa := F8.out.a.vec ha
        have fb := F8.out.b.vec hb
        have fc := F8.out.c.vec hc
        have fj := J8.out.vec hjl
        go_wp2_with (first
          | ((with_reducible apply vec_load); (· rfl); (· (first | assumption | exact Blk.vec (by assumption) (by assumption))); (· assumption); (simp only [Act.put, List.setIfInBounds_toArray, List.set_cons_zero, List.set_cons_succ]))
          | ((with_reducible apply vec_load_g); (· rfl); (· rfl); (· (first | assumption | exact Blk.vec (by assumption) (by assumption))); (· assumption); (simp only [Act.put, List.setIfInBounds_toArray, List.set_cons_zero, List.set_cons_succ])))
        refine (C5.out _).mono ?_
        rintro e w9 ⟨rfl, hb9⟩
        have F9 := Lib.hid (F8.out.keep hb9 hz8)
        have J9 := Lib.hid (J8.out.keep hb9 hzj8)
        have HB9 := Lib.hid (HB8.out.trans (hb9.mono HB8.out.size))
        have hz9 : w.heap.size + 3 ≤ w9.heap.size := by have := hb9.size; omega
        have hzj9 : w3.heap.size < w9.heap.size := by have := hb9.size; omega
        clear hb9 F8 J8 HB8 hz8 hzj8 fa fb fc fj C5
        have fa := F9.out.a.vec ha
        have fb := F9.out.b.vec hb
        have fc := F9.out.c.vec hc
        have fj := J9.out.vec hjl
        go_wp2_with (first
          | ((with_reducible apply vec_load); (· rfl); (· (first | assumption | exact Blk.vec (by assumption) (by assumption))); (· assumption); (simp only [Act.put, List.setIfInBounds_toArray, List.set_cons_zero, List.set_cons_succ]))
          | ((with_reducible apply vec_load_g); (· rfl); (· rfl); (· (first | assumption | exact Blk.vec (by assumption) (by assumption))); (· assumption); (simp only [Act.put, List.setIfInBounds_toArray, List.set_cons_zero, List.set_cons_succ])))
        refine (C6.out _).mono ?_
        rintro e w10 ⟨rfl, hb10⟩
        have F10 := Lib.hid (F9.out.keep hb10 hz9)
        have J10 := Lib.hid (J9.out.keep hb10 hzj9)
        have HB10 := Lib.hid (HB9.out.trans (hb10.mono HB9.out.size))
        have hz10 : w.heap.size + 3 ≤ w10.heap.size := by have := hb10.size; omega
        have hzj10 : w3.heap.size < w10.heap.size := by have := hb10.size; omega
        clear hb10 F9 J9 HB9 hz9 hzj9 fa fb fc fj C6
        go_wp2_with fail
        go_ret
        exact ⟨rfl, HB10.out⟩
      · skip
        have fa := F5.out.a.vec ha
        have fb := F5.out.b.vec hb
        have fc := F5.out.c.vec hc
        have fj := J5.out.vec hjl
        go_wp2_with (first
          | ((with_reducible apply vec_load); (· rfl); (· (first | assumption | exact Blk.vec (by assumption) (by assumption))); (· assumption); (simp only [Act.put, List.setIfInBounds_toArray, List.set_cons_zero, List.set_cons_succ]))
          | ((with_reducible apply vec_load_g); (· rfl); (· rfl); (· (first | assumption | exact Blk.vec (by assumption) (by assumption))); (· assumption); (simp only [Act.put, List.setIfInBounds_toArray, List.set_cons_zero, List.set_cons_succ])))
        refine (C1.out _).mono ?_
        rintro e w6 ⟨rfl, hb6⟩
        have F6 := Lib.hid (F5.out.keep hb6 hz5)
        have J6 := Lib.hid (J5.out.keep hb6 hzj5)
        have HB6 := Lib.hid (HB5.out.trans (hb6.mono HB5.out.size))
        have hz6 : w.heap.size + 3 ≤ w6.heap.size := by have := hb6.size; omega
        have hzj6 : w3.heap.size < w6.heap.size := by have := hb6.size; omega
        clear hb6 F5 J5 HB5 hz5 hzj5 fa fb fc fj C1
        have fa := F6.out.a.vec ha
        have fb := F6.out.b.vec hb
        have fc := F6.out.c.vec hc
        have fj := J6.out.vec hjl
        go_wp2_with (first
          | ((with_reducible apply vec_load); (· rfl); (· (first | assumption | exact Blk.vec (by assumption) (by assumption))); (· assumption); (simp only [Act.put, List.setIfInBounds_toArray, List.set_cons_zero, List.set_cons_succ]))
          | ((with_reducible apply vec_load_g); (· rfl); (· rfl); (· (first | assumption | exact Blk.vec (by assumption) (by assumption))); (· assumption); (simp only [Act.put, List.setIfInBounds_toArray, List.set_cons_zero, List.set_cons_succ])))
        refine (C3.out _).mono ?_
        rintro e w7 ⟨rfl, hb7⟩
        have F7 := Lib.hid (F6.out.keep hb7 hz6)
        have J7 := Lib.hid (J6.out.keep hb7 hzj6)
        have HB7 := Lib.hid (HB6.out.trans (hb7.mono HB6.out.size))
        have hz7 : w.heap.size + 3 ≤ w7.heap.size := by have := hb7.size; omega
        have hzj7 : w3.heap.size < w7.heap.size := by have := hb7.size; omega
        clear hb7 F6 J6 HB6 hz6 hzj6 fa fb fc fj C3
        have fa := F7.out.a.vec ha
        have fb := F7.out.b.vec hb
        have fc := F7.out.c.vec hc
        have fj := J7.out.vec hjl
        go_wp2_with (first
          | ((with_reducible apply vec_load); (· rfl); (· (first | assumption | exact Blk.vec (by assumption) (by assumption))); (· assumption); (simp only [Act.put, List.setIfInBounds_toArray, List.set_cons_zero, List.set_cons_succ]))
          | ((with_reducible apply vec_load_g); (· rfl); (· rfl); (· (first | assumption | exact Blk.vec (by assumption) (by assumption))); (· assumption); (simp only [Act.put, List.setIfInBounds_toArray, List.set_cons_zero, List.set_cons_succ])))
        refine (C4.out _).mono ?_
        rintro e w8 ⟨rfl, hb8⟩
        have F8 := Lib.hid (F7.out.keep hb8 hz7)
        have J8 := Lib.hid (J7.out.keep hb8 hzj7)
        have HB8 := Lib.hid (HB7.out.trans (hb8.mono HB7.out.size))
        have hz8 : w.heap.size + 3 ≤ w8.heap.size := by have := hb8.size; omega
        have hzj8 : w3.heap.size < w8.heap.size := by have := hb8.size; omega
        clear hb8 F7 J7 HB7 hz7 hzj7 fa fb fc fj C4
        have fa := F8.out.a.vec ha
        have fb := F8.out.b.vec hb
        have fc := F8.out.c.vec hc
        have fj := J8.out.vec hjl
        go_wp2_with (first
          | ((with_reducible apply vec_load); (· rfl); (· (first | assumption | exact Blk.vec (by assumption) (by assumption))); (· assumption); (simp only [Act.put, List.setIfInBounds_toArray, List.set_cons_zero, List.set_cons_succ]))
          | ((with_reducible apply vec_load_g); (· rfl); (· rfl); (· (first | assumption | exact Blk.vec (by assumption) (by assumption))); (· assumption); (simp only [Act.put, List.setIfInBounds_toArray, List.set_cons_zero, List.set_cons_succ])))
        refine (C5.out _).mono ?_
        rintro e w9 ⟨rfl, hb9⟩
        have F9 := Lib.hid (F8.out.keep hb9 hz8)
        have J9 := Lib.hid (J8.out.keep hb9 hzj8)
        have HB9 := Lib.hid (HB8.out.trans (hb9.mono HB8.out.size))
        have hz9 : w.heap.size + 3 ≤ w9.heap.size := by have := hb9.size; omega
        have hzj9 : w3.heap.size < w9.heap.size := by have := hb9.size; omega
        clear hb9 F8 J8 HB8 hz8 hzj8 fa fb fc fj C5
        have fa := F9.out.a.vec ha
        have fb := F9.out.b.vec hb
        have fc := F9.out.c.vec hc
        have fj := J9.out.vec hjl
        go_wp2_with (first
          | ((with_reducible apply vec_load); (· rfl); (· (first | assumption | exact Blk.vec (by assumption) (by assumption))); (· assumption); (simp only [Act.put, List.setIfInBounds_toArray, List.set_cons_zero, List.set_cons_succ]))
          | ((with_reducible apply vec_load_g); (· rfl); (· rfl); (· (first | assumption | exact Blk.vec (by assumption) (by assumption))); (· assumption); (simp only [Act.put, List.setIfInBounds_toArray, List.set_cons_zero, List.set_cons_succ])))
        refine (C6.out _).mono ?_
        rintro e w10 ⟨rfl, hb10⟩
        have F10 := Lib.hid (F9.out.keep hb10 hz9)
        have J10 := Lib.hid (J9.out.keep hb10 hzj9)
        have HB10 := Lib.hid (HB9.out.trans (hb10.mono HB9.out.size))
        have hz10 : w.heap.size + 3 ≤ w10.heap.size := by have := hb10.size; omega
        have hzj10 : w3.heap.size < w10.heap.size := by have := hb10.size; omega
        clear hb10 F9 J9 HB9 hz9 hzj9 fa fb fc fj C6
        go_wp2_with fail
        go_ret
        exact ⟨rfl, HB10.out⟩
      · skip
        have fa := F5.out.a.vec ha
        have fb := F5.out.b.vec hb
        have fc := F5.out.c.vec hc
        have fj := J5.out.vec hjl
        go_wp2_with (first
          | ((with_reducible apply vec_load); (· rfl); (· (first | assumption | exact Blk.vec (by assumption) (by assumption))); (· assumption); (simp only [Act.put, List.setIfInBounds_toArray, List.set_cons_zero, List.set_cons_succ]))
          | ((with_reducible apply vec_load_g); (· rfl); (· rfl); (· (first | assumption | exact Blk.vec (by assumption) (by assumption))); (· assumption); (simp only [Act.put, List.setIfInBounds_toArray, List.set_cons_zero, List.set_cons_succ])))
        refine (C1.out _).mono ?_
        rintro e w6 ⟨rfl, hb6⟩
        have F6 := Lib.hid (F5.out.keep hb6 hz5)
        have J6 := Lib.hid (J5.out.keep hb6 hzj5)
        have HB6 := Lib.hid (HB5.out.trans (hb6.mono HB5.out.size))
        have hz6 : w.heap.size + 3 ≤ w6.heap.size := by have := hb6.size; omega
        have hzj6 : w3.heap.size < w6.heap.size := by have := hb6.size; omega
        clear hb6 F5 J5 HB5 hz5 hzj5 fa fb fc fj C1
        have fa := F6.out.a.vec ha
        have fb := F6.out.b.vec hb
        have fc := F6.out.c.vec hc
        have fj := J6.out.vec hjl
        go_wp2_with (first
          | ((with_reducible apply vec_load); (· rfl); (· (first | assumption | exact Blk.vec (by assumption) (by assumption))); (· assumption); (simp only [Act.put, List.setIfInBounds_toArray, List.set_cons_zero, List.set_cons_succ]))
          | ((with_reducible apply vec_load_g); (· rfl); (· rfl); (· (first | assumption | exact Blk.vec (by assumption) (by assumption))); (· assumption); (simp only [Act.put, List.setIfInBounds_toArray, List.set_cons_zero, List.set_cons_succ])))
        refine (C2.out _).mono ?_
        rintro e w7 ⟨rfl, hb7⟩
        have F7 := Lib.hid (F6.out.keep hb7 hz6)
        have J7 := Lib.hid (J6.out.keep hb7 hzj6)
        have HB7 := Lib.hid (HB6.out.trans (hb7.mono HB6.out.size))
        have hz7 : w.heap.size + 3 ≤ w7.heap.size := by have := hb7.size; omega
        have hzj7 : w3.heap.size < w7.heap.size := by have := hb7.size; omega
        clear hb7 F6 J6 HB6 hz6 hzj6 fa fb fc fj C2
        have fa := F7.out.a.vec ha
        have fb := F7.out.b.vec hb
        have fc := F7.out.c.vec hc
        have fj := J7.out.vec hjl
        go_wp2_with (first
          | ((with_reducible apply vec_load); (· rfl); (· (first | assumption | exact Blk.vec (by assumption) (by assumption))); (· assumption); (simp only [Act.put, List.setIfInBounds_toArray, List.set_cons_zero, List.set_cons_succ]))
          | ((with_reducible apply vec_load_g); (· rfl); (· rfl); (· (first | assumption | exact Blk.vec (by assumption) (by assumption))); (· assumption); (simp only [Act.put, List.setIfInBounds_toArray, List.set_cons_zero, List.set_cons_succ])))
        refine (C3.out _).mono ?_
        rintro e w8 ⟨rfl, hb8⟩
        have F8 := Lib.hid (F7.out.keep hb8 hz7)
        have J8 := Lib.hid (J7.out.keep hb8 hzj7)
        have HB8 := Lib.hid (HB7.out.trans (hb8.mono HB7.out.size))
        have hz8 : w.heap.size + 3 ≤ w8.heap.size := by have := hb8.size; omega
        have hzj8 : w3.heap.size < w8.heap.size := by have := hb8.size; omega
        clear hb8 F7 J7 HB7 hz7 hzj7 fa fb fc fj C3
        have fa := F8.out.a.vec ha
        have fb := F8.out.b.vec hb
        have fc := F8.out.c.vec hc
        have fj := J8.out.vec hjl
        go_wp2_with (first
          | ((with_reducible apply vec_load); (· rfl); (· (first | assumption | exact Blk.vec (by assumption) (by assumption))); (· assumption); (simp only [Act.put, List.setIfInBounds_toArray, List.set_cons_zero, List.set_cons_succ]))
          | ((with_reducible apply vec_load_g); (· rfl); (· rfl); (· (first | assumption | exact Blk.vec (by assumption) (by assumption))); (· assumption); (simp only [Act.put, List.setIfInBounds_toArray, List.set_cons_zero, List.set_cons_succ])))
        refine (C4.out _).mono ?_
        rintro e w9 ⟨rfl, hb9⟩
        have F9 := Lib.hid (F8.out.keep hb9 hz8)
        have J9 := Lib.hid (J8.out.keep hb9 hzj8)
        have HB9 := Lib.hid (HB8.out.trans (hb9.mono HB8.out.size))
        have hz9 : w.heap.size + 3 ≤ w9.heap.size := by have := hb9.size; omega
        have hzj9 : w3.heap.size < w9.heap.size := by have := hb9.size; omega
        clear hb9 F8 J8 HB8 hz8 hzj8 fa fb fc fj C4
        have fa := F9.out.a.vec ha
        have fb := F9.out.b.vec hb
        have fc := F9.out.c.vec hc
        have fj := J9.out.vec hjl
        go_wp2_with (first
          | ((with_reducible apply vec_load); (· rfl); (· (first | assumption | exact Blk.vec (by assumption) (by assumption))); (· assumption); (simp only [Act.put, List.setIfInBounds_toArray, List.set_cons_zero, List.set_cons_succ]))
          | ((with_reducible apply vec_load_g); (· rfl); (· rfl); (· (first | assumption | exact Blk.vec (by assumption) (by assumption))); (· assumption); (simp only [Act.put, List.setIfInBounds_toArray, List.set_cons_zero, List.set_cons_succ])))
        refine (C5.out _).mono ?_
        rintro e w10 ⟨rfl, hb10⟩
        have F10 := Lib.hid (F9.out.keep hb10 hz9)
        have J10 := Lib.hid (J9.out.keep hb10 hzj9)
        have HB10 := Lib.hid (HB9.out.trans (hb10.mono HB9.out.size))
        have hz10 : w.heap.size + 3 ≤ w10.heap.size := by have := hb10.size; omega
        have hzj10 : w3.heap.size < w10.heap.size := by have := hb10.size; omega
        clear hb10 F9 J9 HB9 hz9 hzj9 fa fb fc fj C5
        have fa := F10.out.a.vec ha
        have fb := F10.out.b.vec hb
        have fc := F10.out.c.vec hc
        have fj := J10.out.vec hjl
        go_wp2_with (first
          | ((with_reducible apply vec_load); (· rfl); (· (first | assumption | exact Blk.vec (by assumption) (by assumption))); (· assumption); (simp only [Act.put, List.setIfInBounds_toArray, List.set_cons_zero, List.set_cons_succ]))
          | ((with_reducible apply vec_load_g); (· rfl); (· rfl); (· (first | assumption | exact Blk.vec (by assumption) (by assumption))); (· assumption); (simp only [Act.put, List.setIfInBounds_toArray, List.set_cons_zero, List.set_cons_succ])))
        refine (C6.out _).mono ?_
        rintro e w11 ⟨rfl, hb11⟩
        have F11 := Lib.hid (F10.out.keep hb11 hz10)
        have J11 := Lib.hid (J10.out.keep hb11 hzj10)
        have HB11 := Lib.hid (HB10.out.trans (hb11.mono HB10.out.size))
        have hz11 : w.heap.size + 3 ≤ w11.heap.size := by have := hb11.size; omega
        have hzj11 : w3.heap.size < w11.heap.size := by have := hb11.size; omega
        clear hb11 F10 J10 HB10 hz10 hzj10 fa fb fc fj C6
        go_wp2_with fail
        go_ret
        exact ⟨rfl, HB11.out⟩
      · skip
        have fa := F5.out.a.vec ha
        have fb := F5.out.b.vec hb
        have fc := F5.out.c.vec hc
        have fj := J5.out.vec hjl
        go_wp2_with (first
          | ((with_reducible apply vec_load); (· rfl); (· (first | assumption | exact Blk.vec (by assumption) (by assumption))); (· assumption); (simp only [Act.put, List.setIfInBounds_toArray, List.set_cons_zero, List.set_cons_succ]))
          | ((with_reducible apply vec_load_g); (· rfl); (· rfl); (· (first | assumption | exact Blk.vec (by assumption) (by assumption))); (· assumption); (simp only [Act.put, List.setIfInBounds_toArray, List.set_cons_zero, List.set_cons_succ])))
        refine (C1.out _).mono ?_
        rintro e w6 ⟨rfl, hb6⟩
        have F6 := Lib.hid (F5.out.keep hb6 hz5)
        have J6 := Lib.hid (J5.out.keep hb6 hzj5)
        have HB6 := Lib.hid (HB5.out.trans (hb6.mono HB5.out.size))
        have hz6 : w.heap.size + 3 ≤ w6.heap.size := by have := hb6.size; omega
        have hzj6 : w3.heap.size < w6.heap.size := by have := hb6.size; omega
        clear hb6 F5 J5 HB5 hz5 hzj5 fa fb fc fj C1
        have fa := F6.out.a.vec ha
        have fb := F6.out.b.vec hb
        have fc := F6.out.c.vec hc
        have fj := J6.out.vec hjl
        go_wp2_with (first
          | ((with_reducible apply vec_load); (· rfl); (· (first | assumption | exact Blk.vec (by assumption) (by assumption))); (· assumption); (simp only [Act.put, List.setIfInBounds_toArray, List.set_cons_zero, List.set_cons_succ]))
          | ((with_reducible apply vec_load_g); (· rfl); (· rfl); (· (first | assumption | exact Blk.vec (by assumption) (by assumption))); (· assumption); (simp only [Act.put, List.setIfInBounds_toArray, List.set_cons_zero, List.set_cons_succ])))
        refine (C2.out _).mono ?_
        rintro e w7 ⟨rfl, hb7⟩
        have F7 := Lib.hid (F6.out.keep hb7 hz6)
        have J7 := Lib.hid (J6.out.keep hb7 hzj6)
        have HB7 := Lib.hid (HB6.out.trans (hb7.mono HB6.out.size))
        have hz7 : w.heap.size + 3 ≤ w7.heap.size := by have := hb7.size; omega
        have hzj7 : w3.heap.size < w7.heap.size := by have := hb7.size; omega
        clear hb7 F6 J6 HB6 hz6 hzj6 fa fb fc fj C2
        have fa := F7.out.a.vec ha
        have fb := F7.out.b.vec hb
        have fc := F7.out.c.vec hc
        have fj := J7.out.vec hjl
        go_wp2_with (first
          | ((with_reducible apply vec_load); (· rfl); (· (first | assumption | exact Blk.vec (by assumption) (by assumption))); (· assumption); (simp only [Act.put, List.setIfInBounds_toArray, List.set_cons_zero, List.set_cons_succ]))
          | ((with_reducible apply vec_load_g); (· rfl); (· rfl); (· (first | assumption | exact Blk.vec (by assumption) (by assumption))); (· assumption); (simp only [Act.put, List.setIfInBounds_toArray, List.set_cons_zero, List.set_cons_succ])))
        refine (C3.out _).mono ?_
        rintro e w8 ⟨rfl, hb8⟩
        have F8 := Lib.hid (F7.out.keep hb8 hz7)
        have J8 := Lib.hid (J7.out.keep hb8 hzj7)
        have HB8 := Lib.hid (HB7.out.trans (hb8.mono HB7.out.size))
        have hz8 : w.heap.size + 3 ≤ w8.heap.size := by have := hb8.size; omega
        have hzj8 : w3.heap.size < w8.heap.size := by have := hb8.size; omega
        clear hb8 F7 J7 HB7 hz7 hzj7 fa fb fc fj C3
        have fa := F8.out.a.vec ha
        have fb := F8.out.b.vec hb
        have fc := F8.out.c.vec hc
        have fj := J8.out.vec hjl
        go_wp2_with (first
          | ((with_reducible apply vec_load); (· rfl); (· (first | assumption | exact Blk.vec (by assumption) (by assumption))); (· assumption); (simp only [Act.put, List.setIfInBounds_toArray, List.set_cons_zero, List.set_cons_succ]))
          | ((with_reducible apply vec_load_g); (· rfl); (· rfl); (· (first | assumption | exact Blk.vec (by assumption) (by assumption))); (· assumption); (simp only [Act.put, List.setIfInBounds_toArray, List.set_cons_zero, List.set_cons_succ])))
        refine (C4.out _).mono ?_
        rintro e w9 ⟨rfl, hb9⟩
        have F9 := Lib.hid (F8.out.keep hb9 hz8)
        have J9 := Lib.hid (J8.out.keep hb9 hzj8)
        have HB9 := Lib.hid (HB8.out.trans (hb9.mono HB8.out.size))
        have hz9 : w.heap.size + 3 ≤ w9.heap.size := by have := hb9.size; omega
        have hzj9 : w3.heap.size < w9.heap.size := by have := hb9.size; omega
        clear hb9 F8 J8 HB8 hz8 hzj8 fa fb fc fj C4
        have fa := F9.out.a.vec ha
        have fb := F9.out.b.vec hb
        have fc := F9.out.c.vec hc
        have fj := J9.out.vec hjl
        go_wp2_with (first
          | ((with_reducible apply vec_load); (· rfl); (· (first | assumption | exact Blk.vec (by assumption) (by assumption))); (· assumption); (simp only [Act.put, List.setIfInBounds_toArray, List.set_cons_zero, List.set_cons_succ]))
          | ((with_reducible apply vec_load_g); (· rfl); (· rfl); (· (first | assumption | exact Blk.vec (by assumption) (by assumption))); (· assumption); (simp only [Act.put, List.setIfInBounds_toArray, List.set_cons_zero, List.set_cons_succ])))
        refine (C5.out _).mono ?_
        rintro e w10 ⟨rfl, hb10⟩
        have F10 := Lib.hid (F9.out.keep hb10 hz9)
        have J10 := Lib.hid (J9.out.keep hb10 hzj9)
        have HB10 := Lib.hid (HB9.out.trans (hb10.mono HB9.out.size))
        have hz10 : w.heap.size + 3 ≤ w10.heap.size := by have := hb10.size; omega
        have hzj10 : w3.heap.size < w10.heap.size := by have := hb10.size; omega
        clear hb10 F9 J9 HB9 hz9 hzj9 fa fb fc fj C5
        have fa := F10.out.a.vec ha
        have fb := F10.out.b.vec hb
        have fc := F10.out.c.vec hc
        have fj := J10.out.vec hjl
        go_wp2_with (first
          | ((with_reducible apply vec_load); (· rfl); (· (first | assumption | exact Blk.vec (by assumption) (by assumption))); (· assumption); (simp only [Act.put, List.setIfInBounds_toArray, List.set_cons_zero, List.set_cons_succ]))
          | ((with_reducible apply vec_load_g); (· rfl); (· rfl); (· (first | assumption | exact Blk.vec (by assumption) (by assumption))); (· assumption); (simp only [Act.put, List.setIfInBounds_toArray, List.set_cons_zero, List.set_cons_succ])))
        refine (C6.out _).mono ?_
        rintro e w11 ⟨rfl, hb11⟩
        have F11 := Lib.hid (F10.out.keep hb11 hz10)
        have J11 := Lib.hid (J10.out.keep hb11 hzj10)
        have HB11 := Lib.hid (HB10.out.trans (hb11.mono HB10.out.size))
        have hz11 : w.heap.size + 3 ≤ w11.heap.size := by have := hb11.size; omega
        have hzj11 : w3.heap.size < w11.heap.size := by have := hb11.size; omega
        clear hb11 F10 J10 HB10 hz10 hzj10 fa fb fc fj C6
        go_wp2_with fail
        go_ret
        exact ⟨rfl, HB11.out⟩
theorem joins_law (v0 v1 v2 : Value) (w : World) (h0 : Arg Try.prog w 53 v0) (h1 : Arg Try.prog w 53 v1) (h2 : Arg Try.prog w 53 v2) : Calls Try.prog 10 #[v0, v1, v2] w fun e w' => e = .returned (.bool true) ∧ Below w.heap.size w w' := by
  obtain ⟨a, ha, rfl, _⟩ := h0.vec4
  obtain ⟨b, hb, rfl, _⟩ := h1.vec4
  obtain ⟨c, hc, rfl, _⟩ := h2.vec4
  exact joins_walk a b c w (Lib.hid ha) (Lib.hid hb) (Lib.hid hc)
end Go.Proofs.Ytmgjbgingjiimaa
