/- The order of keys; the other of a key. -/
import Derived.Test.YtbdonjapcpfgiaaDoorIdn2
import Derived.Deep.DeepCutAuto
import Derived.Maps.AppendAt
import Derived.Test.YtbdonjapcpfgiaaDoorRow
import Derived.Test.YtbdonjapcpfgiaaDoorOps
import Derived.RegionTactic
import Derived.BigRegion
import Derived.ChangeAlike
namespace Go.Proofs.YtbdonjapcpfgiaaDoor
set_option linter.unusedVariables false
set_option linter.unusedSimpArgs false
open Go.ChangeShapes Go.WideShapes Go.ChangeAt Go.RowKit
theorem id_size : (Tryd.prog.info? 23).map (·.size) = some 2 := by kernel_rfl
set_option maxHeartbeats 4000000 in
theorem lesskey_any (p q o : Int) (u : Bool) (p2 q2 o2 : Int) (u2 : Bool) (w : World) : Calls Tryd.prog 13 #[.agg #[.int .i64 p, .int .i64 q, .int .i64 o, .bool u], .agg #[.int .i64 p2, .int .i64 q2, .int .i64 o2, .bool u2]] w fun e w' => e = .returned (.bool (lessK p q o u p2 q2 o2 u2)) ∧ Below w.heap.size w w' := by
  have HB := Lib.hid (((Below.refl w.heap.size w).alloc (Nat.le_refl _) (.cells #[.int .i64 p, .int .i64 q, .int .i64 o, .bool u] 25)).alloc (by simp) (.cells #[.int .i64 p2, .int .i64 q2, .int .i64 o2, .bool u2] 25))
  have A := Lib.hid ((Blk.new w #[.int .i64 p, .int .i64 q, .int .i64 o, .bool u] 25).alloc (.cells #[.int .i64 p2, .int .i64 q2, .int .i64 o2, .bool u2] 25))
  have B : Hid (Blk ((w.alloc (.cells #[.int .i64 p, .int .i64 q, .int .i64 o, .bool u] 25)).alloc (.cells #[.int .i64 p2, .int .i64 q2, .int .i64 o2, .bool u2] 25)) (w.heap.size + 1) #[.int .i64 p2, .int .i64 q2, .int .i64 o2, .bool u2].toList 25) := Lib.hid (by have := Blk.new (w.alloc (.cells #[.int .i64 p, .int .i64 q, .int .i64 o, .bool u] 25)) #[.int .i64 p2, .int .i64 q2, .int .i64 o2, .bool u2] 25; simpa using this)
  have C := Lib.hid (fun w => compare_any p q p2 q2 w)
  obtain ⟨RV, hRV⟩ : ∃ RV, RV = lessK p q o u p2 q2 o2 u2 := ⟨_, rfl⟩
  rw [← hRV]
  have HRV : Hid (RV = if firstNZ [cmpId p q p2 q2, cmpI o o2] = 0 then (!u && u2) else decide (firstNZ [cmpId p q p2 q2, cmpI o o2] < 0)) := Lib.hid hRV
  clear hRV
  generalize cmpId p q p2 q2 = x at *
  go_enter Tryd.func13, Tryd.ntmps13
  go_upto_region 1 with fail
  generalize hg0 : w.heap.size = g0 at *
  have HG0 := Lib.hid hg0
  generalize ((w.alloc (.cells #[.int .i64 p, .int .i64 q, .int .i64 o, .bool u] 25)).alloc (.cells #[.int .i64 p2, .int .i64 q2, .int .i64 o2, .bool u2] 25)) = w1 at *
  clear hg0
  refine held_begin (fun w' => Below w1.heap.size w1 w') 13 [false, false, false, false, false, false, false, false, false, false, false, false, false] (by kernel_rfl) rfl (by rfl) ?_
  have hHeld : Below w1.heap.size w1 w1.drew := (Below.refl _ _).drew
  refine held_take (v := ?_) 0 6 [true, false, false, false, false, false, false, false, false, false, false, false, false] rfl (by rfl) (by rfl) (by kernel_rfl) (by kernel_rfl) (by kernel_rfl) (by rfl) (fun _ _ _ h => h) ?_ hHeld ?_
  rotate_left
  · intro w hSw; go_simp <;> with_reducible rfl
  simp only [Act.put, List.setIfInBounds_toArray, List.set_cons_zero, List.set_cons_succ]
  refine held_take (v := .agg #[.int .i64 p, .int .i64 q]) 1 7 [true, true, false, false, false, false, false, false, false, false, false, false, false] rfl (by rfl) (by rfl) (by kernel_rfl) (by kernel_rfl) (by kernel_rfl) (by rfl) (fun _ _ _ h => h) (fun w' h => run_op_load rfl rfl ((A.out.keep h A.out.lt).range 0 [.int .i64 p, .int .i64 q] rfl) Tryd.underlying23 rfl id_size) hHeld ?_
  simp only [Act.put, List.setIfInBounds_toArray, List.set_cons_zero, List.set_cons_succ]
  refine held_take (v := ?_) 2 8 [true, true, true, false, false, false, false, false, false, false, false, false, false] rfl (by rfl) (by rfl) (by kernel_rfl) (by kernel_rfl) (by kernel_rfl) (by rfl) (fun _ _ _ h => h) ?_ hHeld ?_
  rotate_left
  · intro w hSw; go_simp <;> with_reducible rfl
  simp only [Act.put, List.setIfInBounds_toArray, List.set_cons_zero, List.set_cons_succ]
  refine held_take (v := .agg #[.int .i64 p2, .int .i64 q2]) 3 9 [true, true, true, true, false, false, false, false, false, false, false, false, false] rfl (by rfl) (by rfl) (by kernel_rfl) (by kernel_rfl) (by kernel_rfl) (by rfl) (fun _ _ _ h => h) (fun w' h => run_op_load rfl rfl ((B.out.keep h B.out.lt).range 0 [.int .i64 p2, .int .i64 q2] rfl) Tryd.underlying23 rfl id_size) hHeld ?_
  simp only [Act.put, List.setIfInBounds_toArray, List.set_cons_zero, List.set_cons_succ]
  refine held_take (v := ?_) 5 11 [true, true, true, true, false, true, false, false, false, false, false, false, false] rfl (by rfl) (by rfl) (by kernel_rfl) (by kernel_rfl) (by kernel_rfl) (by rfl) (fun _ _ _ h => h) ?_ hHeld ?_
  rotate_left
  · intro w hSw; go_simp <;> with_reducible rfl
  simp only [Act.put, List.setIfInBounds_toArray, List.set_cons_zero, List.set_cons_succ]
  refine held_take (v := .int .i64 o) 6 12 [true, true, true, true, false, true, true, false, false, false, false, false, false] rfl (by rfl) (by rfl) (by kernel_rfl) (by kernel_rfl) (by kernel_rfl) (by rfl) (fun _ _ _ h => h) (fun w' h => run_op_one rfl rfl Tryd.underlying3 rfl ((A.out.keep h A.out.lt).cell 2)) hHeld ?_
  simp only [Act.put, List.setIfInBounds_toArray, List.set_cons_zero, List.set_cons_succ]
  refine held_take (v := ?_) 7 13 [true, true, true, true, false, true, true, true, false, false, false, false, false] rfl (by rfl) (by rfl) (by kernel_rfl) (by kernel_rfl) (by kernel_rfl) (by rfl) (fun _ _ _ h => h) ?_ hHeld ?_
  rotate_left
  · intro w hSw; go_simp <;> with_reducible rfl
  simp only [Act.put, List.setIfInBounds_toArray, List.set_cons_zero, List.set_cons_succ]
  refine held_take (v := .int .i64 o2) 8 14 [true, true, true, true, false, true, true, true, true, false, false, false, false] rfl (by rfl) (by rfl) (by kernel_rfl) (by kernel_rfl) (by kernel_rfl) (by rfl) (fun _ _ _ h => h) (fun w' h => run_op_one rfl rfl Tryd.underlying3 rfl ((B.out.keep h B.out.lt).cell 2)) hHeld ?_
  simp only [Act.put, List.setIfInBounds_toArray, List.set_cons_zero, List.set_cons_succ]
  refine held_call 4 10 [true, true, true, true, true, true, true, true, true, false, false, false, false] (by kernel_rfl) rfl (by rfl) (by rfl) (by rfl) (by go_simp) ((C.out _).mono ?_)
  rintro e w4 ⟨rfl, hb4⟩
  refine ⟨_, rfl, hHeld.trans (hb4.mono hHeld.size), fun hHeld => ?_⟩
  simp only [Act.put, List.setIfInBounds_toArray, List.set_cons_zero, List.set_cons_succ]
  refine held_call 9 15 [true, true, true, true, true, true, true, true, true, true, false, false, false] (by kernel_rfl) rfl (by rfl) (by rfl) (by rfl) (by go_simp) ((cmp_any o o2 _).mono ?_)
  rintro e w5 ⟨rfl, rfl⟩
  refine ⟨_, rfl, hHeld, fun hHeld => ?_⟩
  simp only [Act.put, List.setIfInBounds_toArray, List.set_cons_zero, List.set_cons_succ]
  generalize cmpI o o2 = y at *
  have hal := (Below.refl w5.heap.size w5).alloc (Nat.le_refl _) (.cells #[.int .i64 x, .int .i64 y] 3)
  have hsl := sl_ints w5 [x, y] (by simp)
  refine held_one 10 (by kernel_rfl) ?_
  refine op_value (v := .slice (some ⟨w5.heap.size, 0, none⟩) 2 2) 16 [true, true, true, true, true, true, true, true, true, true, true, false, false] rfl (by rfl) (by rfl) (by rfl) (by go_simp <;> rfl) (hHeld.trans (hal.mono hHeld.size)) fun hHeld => ?_
  simp only [Act.put, List.setIfInBounds_toArray, List.set_cons_zero, List.set_cons_succ]
  refine held_call 11 17 [true, true, true, true, true, true, true, true, true, true, true, true, false] (by kernel_rfl) rfl (by rfl) (by rfl) (by rfl) (by go_simp) ((or_any _ 2 2 [x, y] _ hsl (by decide)).mono ?_)
  rintro e w6 ⟨rfl, rfl⟩
  refine ⟨_, rfl, hHeld, fun hHeld => ?_⟩
  simp only [Act.put, List.setIfInBounds_toArray, List.set_cons_zero, List.set_cons_succ]
  refine held_take (v := ?_) 12 5 [true, true, true, true, true, true, true, true, true, true, true, true, true] rfl (by rfl) (by rfl) (by kernel_rfl) (by kernel_rfl) (by kernel_rfl) (by rfl) (fun _ _ _ h => h) ?_ hHeld ?_
  rotate_left
  · intro w hSw; go_simp <;> with_reducible rfl
  simp only [Act.put, List.setIfInBounds_toArray, List.set_cons_zero, List.set_cons_succ]
  refine held_done (by kernel_rfl) ?_
  have HB9 := HB.out.trans (hHeld.mono (HG0.out ▸ HB.out.size))
  have A9 := A.out.keep hHeld A.out.lt
  have B9 := B.out.keep hHeld B.out.lt
  have ca := A9.cell 3
  have cb := B9.cell 3
  have ca : (w5.alloc (.cells #[.int .i64 x, .int .i64 y] 3)).cell? ⟨g0, 3, none⟩ = some (.bool u) := ca
  have cb : (w5.alloc (.cells #[.int .i64 x, .int .i64 y] 3)).cell? ⟨g0 + 1, 3, none⟩ = some (.bool u2) := cb
  clear hHeld hsl hal hb4
  generalize w5.alloc (.cells #[.int .i64 x, .int .i64 y] 3) = w9 at *
  generalize firstNZ [x, y] = kv at *
  have HBZ := Lib.hid HB9
  clear HB9 A B A9 B9 HB
  rcases hk : (kv != 0) with _ | _
  · have HR : Hid (RV = (!u && u2)) := Lib.hid (by rw [HRV.out, if_pos (by simpa using hk)])
    cases u
    · go_wp2_with fail
      go_ret
      have hge := HG0.out
      subst hge
      exact ⟨by rw [HR.out]; rfl, HBZ.out⟩
    · go_wp2_with fail
      go_ret
      have hge := HG0.out
      subst hge
      exact ⟨by rw [HR.out]; rfl, HBZ.out⟩
  · have HR : Hid (RV = decide (kv < 0)) := Lib.hid (by rw [HRV.out, if_neg (by simpa using hk)])
    go_wp2_with fail
    go_ret
    have hge := HG0.out
    subst hge
    exact ⟨by rw [HR.out]; rfl, HBZ.out⟩
theorem key_size : (Tryd.prog.info? 25).map (·.size) = some 4 := by kernel_rfl
theorem other_any (p q o : Int) (u : Bool) (w : World) : Calls Tryd.prog 15 #[.agg #[.int .i64 p, .int .i64 q, .int .i64 o, .bool u]] w fun e w' => e = .returned (.agg #[.int .i64 p, .int .i64 q, .int .i64 o, .bool (!u)]) ∧ Below w.heap.size w w' := by
  have C5 : Blk ((w.alloc (.cells #[.int .i64 p, .int .i64 q, .int .i64 o, .bool (!u)] 25)).alloc (.cells #[.int .i64 p, .int .i64 q, .int .i64 o, .bool (!u)] 25)) (w.heap.size + 1) (#[.int .i64 p, .int .i64 q, .int .i64 o, .bool (!u)] : Array Value).toList 25 := by have := Blk.new (w.alloc (.cells #[.int .i64 p, .int .i64 q, .int .i64 o, .bool (!u)] 25)) #[.int .i64 p, .int .i64 q, .int .i64 o, .bool (!u)] 25; simpa using this
  have HB := ((Below.refl w.heap.size w).alloc (Nat.le_refl _) (.cells #[.int .i64 p, .int .i64 q, .int .i64 o, .bool (!u)] 25)).alloc (by simp) (.cells #[.int .i64 p, .int .i64 q, .int .i64 o, .bool (!u)] 25)
  go_enter Tryd.func15, Tryd.ntmps15
  go_wp2_with fail
  exact ret_cell (p := 2) rfl rfl C5 Tryd.underlying25 rfl key_size rfl ⟨rfl, HB⟩
theorem rother_any (p q o : Int) (u : Bool) (w : World) : Calls Tryd.prog 16 #[.agg #[.int .i64 p, .int .i64 q, .int .i64 o, .bool u]] w fun e w' => e = .returned (.agg #[.int .i64 p, .int .i64 q, .int .i64 o, .bool (!u)]) ∧ Below w.heap.size w w' := by
  have C5 : Blk ((w.alloc (.cells #[.int .i64 p, .int .i64 q, .int .i64 o, .bool u] 25)).alloc (.cells #[.int .i64 p, .int .i64 q, .int .i64 o, .bool (!u)] 25)) (w.heap.size + 1) (#[.int .i64 p, .int .i64 q, .int .i64 o, .bool (!u)] : Array Value).toList 25 := by have := Blk.new (w.alloc (.cells #[.int .i64 p, .int .i64 q, .int .i64 o, .bool u] 25)) #[.int .i64 p, .int .i64 q, .int .i64 o, .bool (!u)] 25; simpa using this
  have HB := ((Below.refl w.heap.size w).alloc (Nat.le_refl _) (.cells #[.int .i64 p, .int .i64 q, .int .i64 o, .bool u] 25)).alloc (by simp) (.cells #[.int .i64 p, .int .i64 q, .int .i64 o, .bool (!u)] 25)
  go_enter Tryd.func16, Tryd.ntmps16
  go_wp2_with fail
  exact ret_cell (p := 2) rfl rfl C5 Tryd.underlying25 rfl key_size rfl ⟨rfl, HB⟩
theorem wf_fitsI {n : Int} (h : fits n = true) : (Lit.int .i64 n).wf = true := by
  obtain ⟨h1, h2⟩ := (fits_iff n).1 h
  simp only [Lit.wf, IntKind.min, IntKind.max, IntKind.signed, IntKind.bits, Bool.and_eq_true, decide_eq_true_eq, if_true]
  omega
theorem flatId : flat Tryd.prog 4 23 = some (List.replicate 2 (some .i64)) := by kernel_rfl
theorem okId {p q : Int} (hp : fits p = true) (hq : fits q = true) : OkAll (List.replicate 2 (some .i64)) (ints [p, q]) := ⟨⟨p, rfl, wf_fitsI hp⟩, ⟨q, rfl, wf_fitsI hq⟩, trivial⟩
theorem same_id {p q p2 q2 : Int} (hp : fits p = true) (hq : fits q = true) (hp2 : fits p2 = true) (hq2 : fits q2 = true) : sameB (ints [p, q]) (ints [p2, q2]) = decide (p = p2 ∧ q = q2) := by
  have := sameB_iff (okId hp hq) (okId hp2 hq2)
  by_cases h : p = p2 ∧ q = q2
  · obtain ⟨rfl, rfl⟩ := h
    rw [sameB_refl]; simp
  · rw [decide_eq_false h]
    exact Bool.eq_false_iff.2 (fun e => h (by have h2 := this.1 e; simp [ints] at h2; exact h2))
theorem id_neq {p q p2 q2 : Int} (hp : fits p = true) (hq : fits q = true) (hp2 : fits p2 = true) (hq2 : fits q2 = true) (w : World) : (binOp .neq 23 (.agg #[.int .i64 p, .int .i64 q]) (.agg #[.int .i64 p2, .int .i64 q2])).run Tryd.prog w = .ok (.bool (!decide (p = p2 ∧ q = q2))) w := by
  have := neq_flat 4 4 23 _ _ _ w flatId (by kernel_rfl) (by kernel_rfl) (by kernel_rfl) (by decide) (okId hp hq) (okId hp2 hq2)
  rw [same_id hp hq hp2 hq2] at this
  exact this
theorem id_eql {p q p2 q2 : Int} (hp : fits p = true) (hq : fits q = true) (hp2 : fits p2 = true) (hq2 : fits q2 = true) (w : World) : (binOp .eql 23 (.agg #[.int .i64 p, .int .i64 q]) (.agg #[.int .i64 p2, .int .i64 q2])).run Tryd.prog w = .ok (.bool (decide (p = p2 ∧ q = q2))) w := by
  have := eql_flat 4 4 23 _ _ _ w flatId (by kernel_rfl) (by kernel_rfl) (by kernel_rfl) (by decide) (okId hp hq) (okId hp2 hq2)
  rw [same_id hp hq hp2 hq2] at this
  exact this
theorem id_grd : Tryd.prog.eqGuardType Tryd.prog.depth 23 = false := by kernel_rfl
set_option maxHeartbeats 4000000 in
theorem rlesskey_any (p q o : Int) (u : Bool) (p2 q2 o2 : Int) (u2 : Bool) (w : World) (hp : fits p = true) (hq : fits q = true) (hp2 : fits p2 = true) (hq2 : fits q2 = true) : Calls Tryd.prog 14 #[.agg #[.int .i64 p, .int .i64 q, .int .i64 o, .bool u], .agg #[.int .i64 p2, .int .i64 q2, .int .i64 o2, .bool u2]] w fun e w' => e = .returned (.bool (lessK p q o u p2 q2 o2 u2)) ∧ Below w.heap.size w w' := by
  have HB := Lib.hid (((Below.refl w.heap.size w).alloc (Nat.le_refl _) (.cells #[.int .i64 p, .int .i64 q, .int .i64 o, .bool u] 25)).alloc (by simp) (.cells #[.int .i64 p2, .int .i64 q2, .int .i64 o2, .bool u2] 25))
  have C := Lib.hid (fun w => rless_any p q p2 q2 w)
  have NE := Lib.hid (id_neq hp hq hp2 hq2)
  have hz := cmpId_zero p q p2 q2
  have ho := cmpI_zero o o2
  have hn := cmpI_neg o o2
  clear hp hq hp2 hq2
  by_cases h : p = p2 ∧ q = q2
  · rw [decide_eq_true h] at NE
    have hx : cmpId p q p2 q2 = 0 := hz.2 h
    by_cases h1 : o < o2
    · have HRV : Hid (lessK p q o u p2 q2 o2 u2 = true) := Lib.hid (by unfold lessK; rw [first2, if_pos hx, if_neg (by omega)]; exact decide_eq_true (by omega))
      clear hz ho hn hx h
      go_enter Tryd.func14, Tryd.ntmps14
      go_wp2_with (first | ((with_reducible refine cmp_row id_grd NE.out ?_ ?_ ?_ ?_); (· rfl); (· rfl); (· rfl); (simp only [Act.put, List.setIfInBounds_toArray, List.set_cons_zero, List.set_cons_succ])))
      go_ret
      exact ⟨by rw [HRV.out]; first | rfl | simp, HB.out⟩
    · by_cases h2 : o = o2
      · have h2b : (o == o2) = true := by simpa using h2
        have HRV : Hid (lessK p q o u p2 q2 o2 u2 = (!u && u2)) := Lib.hid (by unfold lessK; rw [first2, if_pos hx, if_pos (ho.2 h2)])
        clear hz ho hn hx h h2
        cases u
        · go_enter Tryd.func14, Tryd.ntmps14
          go_wp2_with (first | ((with_reducible refine cmp_row id_grd NE.out ?_ ?_ ?_ ?_); (· rfl); (· rfl); (· rfl); (simp only [Act.put, List.setIfInBounds_toArray, List.set_cons_zero, List.set_cons_succ])))
          go_ret
          exact ⟨by rw [HRV.out]; first | rfl | simp, HB.out⟩
        · go_enter Tryd.func14, Tryd.ntmps14
          go_wp2_with (first | ((with_reducible refine cmp_row id_grd NE.out ?_ ?_ ?_ ?_); (· rfl); (· rfl); (· rfl); (simp only [Act.put, List.setIfInBounds_toArray, List.set_cons_zero, List.set_cons_succ])))
          go_ret
          exact ⟨by rw [HRV.out]; first | rfl | simp, HB.out⟩
      · have h2b : (o == o2) = false := by simpa using h2
        have HRV : Hid (lessK p q o u p2 q2 o2 u2 = false) := Lib.hid (by unfold lessK; rw [first2, if_pos hx, if_neg (fun e => h2 (ho.1 e))]; exact decide_eq_false (by omega))
        clear hz ho hn hx h h2
        go_enter Tryd.func14, Tryd.ntmps14
        go_wp2_with (first | ((with_reducible refine cmp_row id_grd NE.out ?_ ?_ ?_ ?_); (· rfl); (· rfl); (· rfl); (simp only [Act.put, List.setIfInBounds_toArray, List.set_cons_zero, List.set_cons_succ])))
        go_ret
        exact ⟨by rw [HRV.out]; first | rfl | simp, HB.out⟩
  · rw [decide_eq_false h] at NE
    have hx : cmpId p q p2 q2 ≠ 0 := fun e => h (hz.1 e)
    have HRV : Hid (lessK p q o u p2 q2 o2 u2 = idLess p q p2 q2) := Lib.hid (by unfold lessK; rw [first2, if_neg hx, if_neg hx]; rfl)
    clear hz ho hn hx h
    go_enter Tryd.func14, Tryd.ntmps14
    go_wp2_with (first | ((with_reducible refine cmp_row id_grd NE.out ?_ ?_ ?_ ?_); (· rfl); (· rfl); (· rfl); (simp only [Act.put, List.setIfInBounds_toArray, List.set_cons_zero, List.set_cons_succ])))
    refine (C.out _).mono ?_
    rintro e w2 ⟨rfl, hb⟩
    have HB2 := HB.out.trans (hb.mono HB.out.size)
    go_wp2_with fail
    go_ret
    exact ⟨by rw [HRV.out]; rfl, HB2⟩
end Go.Proofs.YtbdonjapcpfgiaaDoor
