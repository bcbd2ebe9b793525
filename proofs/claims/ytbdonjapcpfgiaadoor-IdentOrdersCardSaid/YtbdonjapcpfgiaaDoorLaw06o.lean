/- The statement of names: their order. -/
import Derived.Test.YtbdonjapcpfgiaaDoorLaw06
import Derived.Test.YtbdonjapcpfgiaaDoorHeld
import Derived.Deep.DeepCutAuto
import Derived.Maps.AppendAt
import Derived.Test.YtbdonjapcpfgiaaDoorRow
import Derived.Test.YtbdonjapcpfgiaaDoorOps
import Derived.RegionTactic
import Derived.BigRegion
import Derived.ChangeAlike
namespace Go.Proofs.YtbdonjapcpfgiaaDoor
set_option linter.unusedVariables false
set_option linter.unusedSimpArgs false
open Go.ChangeShapes Go.WideShapes Go.ChangeAt Go.RowKit
/-- the order of keys, in plain words. -/
theorem lessK_iff (p q o : Int) (u : Bool) (p2 q2 o2 : Int) (u2 : Bool) : lessK p q o u p2 q2 o2 u2 = true ↔ (q < q2 ∨ q = q2 ∧ (p < p2 ∨ p = p2 ∧ (o < o2 ∨ o = o2 ∧ (u = false ∧ u2 = true)))) := by
  have h1 := cmpId_neg p q p2 q2
  have h2 := cmpId_zero p q p2 q2
  have h3 := cmpI_neg o o2
  have h4 := cmpI_zero o o2
  unfold lessK
  rw [first2]
  by_cases hx : cmpId p q p2 q2 = 0
  · rw [if_pos hx]
    have := h2.1 hx
    by_cases hy : cmpI o o2 = 0
    · rw [if_pos hy]
      have := h4.1 hy
      cases u <;> cases u2 <;> simp <;> omega
    · rw [if_neg hy, decide_eq_true_eq]
      have := mt h4.2 hy
      constructor <;> intro h <;> omega
  · rw [if_neg hx, if_neg hx, decide_eq_true_eq]
    have := mt h2.2 hx
    constructor <;> intro h <;> omega
theorem lessK_same (p q o : Int) (u : Bool) (p2 q2 o2 : Int) (u2 : Bool) : (lessK p q o u p2 q2 o2 u2 = false ∧ lessK p2 q2 o2 u2 p q o u = false) ↔ (p = p2 ∧ q = q2 ∧ o = o2 ∧ u = u2) := by
  have h1 := lessK_iff p q o u p2 q2 o2 u2
  have h2 := lessK_iff p2 q2 o2 u2 p q o u
  cases h3 : lessK p q o u p2 q2 o2 u2 <;> cases h4 : lessK p2 q2 o2 u2 p q o u <;> rw [h3] at h1 <;> rw [h4] at h2 <;> cases u <;> cases u2 <;> simp at h1 h2 ⊢ <;> omega
theorem lessK_asym (p q o : Int) (u : Bool) (p2 q2 o2 : Int) (u2 : Bool) : ¬ (lessK p q o u p2 q2 o2 u2 = true ∧ lessK p2 q2 o2 u2 p q o u = true) := by
  rw [lessK_iff, lessK_iff]
  cases u <;> cases u2 <;> simp <;> omega
theorem lessK_trans {p q o : Int} {u : Bool} {p2 q2 o2 : Int} {u2 : Bool} {p3 q3 o3 : Int} {u3 : Bool} (h1 : lessK p q o u p2 q2 o2 u2 = true) (h2 : lessK p2 q2 o2 u2 p3 q3 o3 u3 = true) : lessK p q o u p3 q3 o3 u3 = true := by
  rw [lessK_iff] at h1 h2 ⊢
  revert h1 h2
  cases u <;> cases u2 <;> cases u3 <;> simp <;> omega
set_option maxRecDepth 100000 in
set_option maxHeartbeats 8000000 in
theorem orders06 (p q o : Int) (u : Bool) (p2 q2 o2 : Int) (u2 : Bool) (p3 q3 o3 : Int) (u3 : Bool) (w : World) (hT : PTab w) (hp : fits p = true) (hq : fits q = true) (ho : fits o = true) (hp2 : fits p2 = true) (hq2 : fits q2 = true) (ho2 : fits o2 = true) :
    Calls Tryd.prog 4 #[.agg #[.int .i64 p, .int .i64 q, .int .i64 o, .bool u], .agg #[.int .i64 p2, .int .i64 q2, .int .i64 o2, .bool u2], .agg #[.int .i64 p3, .int .i64 q3, .int .i64 o3, .bool u3]] w fun e w' => e = .returned (.bool true) ∧ Below w.heap.size w w' := by
  have HB := Lib.hid ((((Below.refl w.heap.size w).alloc (Nat.le_refl _) (.cells #[.int .i64 p, .int .i64 q, .int .i64 o, .bool u] 25)).alloc (by simp) (.cells #[.int .i64 p2, .int .i64 q2, .int .i64 o2, .bool u2] 25)).alloc (by simp; omega) (.cells #[.int .i64 p3, .int .i64 q3, .int .i64 o3, .bool u3] 25))
  have A : Hid (Blk ((((w.alloc (.cells #[.int .i64 p, .int .i64 q, .int .i64 o, .bool u] 25)).alloc (.cells #[.int .i64 p2, .int .i64 q2, .int .i64 o2, .bool u2] 25))).alloc (.cells #[.int .i64 p3, .int .i64 q3, .int .i64 o3, .bool u3] 25)) w.heap.size [.int .i64 p, .int .i64 q, .int .i64 o, .bool u] 25) := Lib.hid (by have := ((Blk.new w #[.int .i64 p, .int .i64 q, .int .i64 o, .bool u] 25).alloc (.cells #[.int .i64 p2, .int .i64 q2, .int .i64 o2, .bool u2] 25)).alloc (.cells #[.int .i64 p3, .int .i64 q3, .int .i64 o3, .bool u3] 25); simpa using this)
  have B : Hid (Blk ((((w.alloc (.cells #[.int .i64 p, .int .i64 q, .int .i64 o, .bool u] 25)).alloc (.cells #[.int .i64 p2, .int .i64 q2, .int .i64 o2, .bool u2] 25))).alloc (.cells #[.int .i64 p3, .int .i64 q3, .int .i64 o3, .bool u3] 25)) (w.heap.size + 1) [.int .i64 p2, .int .i64 q2, .int .i64 o2, .bool u2] 25) := Lib.hid (by have := (Blk.new (w.alloc (.cells #[.int .i64 p, .int .i64 q, .int .i64 o, .bool u] 25)) #[.int .i64 p2, .int .i64 q2, .int .i64 o2, .bool u2] 25).alloc (.cells #[.int .i64 p3, .int .i64 q3, .int .i64 o3, .bool u3] 25); simpa using this)
  have C : Hid (Blk ((((w.alloc (.cells #[.int .i64 p, .int .i64 q, .int .i64 o, .bool u] 25)).alloc (.cells #[.int .i64 p2, .int .i64 q2, .int .i64 o2, .bool u2] 25))).alloc (.cells #[.int .i64 p3, .int .i64 q3, .int .i64 o3, .bool u3] 25)) (w.heap.size + 2) [.int .i64 p3, .int .i64 q3, .int .i64 o3, .bool u3] 25) := Lib.hid (by have := Blk.new ((w.alloc (.cells #[.int .i64 p, .int .i64 q, .int .i64 o, .bool u] 25)).alloc (.cells #[.int .i64 p2, .int .i64 q2, .int .i64 o2, .bool u2] 25)) #[.int .i64 p3, .int .i64 q3, .int .i64 o3, .bool u3] 25; simpa using this)
  have HAL := Lib.hid (fun w' (hb : Below w.heap.size w w') => alive06 w' (hT.keep hb))
  have CAB := Lib.hid (fun w => lesskey_any p q o u p2 q2 o2 u2 w)
  have CBA := Lib.hid (fun w => lesskey_any p2 q2 o2 u2 p q o u w)
  have CBC := Lib.hid (fun w => lesskey_any p2 q2 o2 u2 p3 q3 o3 u3 w)
  have CAC := Lib.hid (fun w => lesskey_any p q o u p3 q3 o3 u3 w)
  have EQK := Lib.hid (fun w => key_eql u u2 hp hq ho hp2 hq2 ho2 w)
  have HSM : Hid (sameB [.int .i64 p, .int .i64 q, .int .i64 o, .bool u] [.int .i64 p2, .int .i64 q2, .int .i64 o2, .bool u2] = (!lessK p q o u p2 q2 o2 u2 && !lessK p2 q2 o2 u2 p q o u)) := Lib.hid (by
    have h1 := sameB_iff (okK u hp hq ho) (okK u2 hp2 hq2 ho2)
    have h2 := lessK_same p q o u p2 q2 o2 u2
    have h3 : ([.int .i64 p, .int .i64 q, .int .i64 o, .bool u] : List Value) = [.int .i64 p2, .int .i64 q2, .int .i64 o2, .bool u2] ↔ (p = p2 ∧ q = q2 ∧ o = o2 ∧ u = u2) := by simp
    have h4 := h1.trans (h3.trans h2.symm)
    cases ha : lessK p q o u p2 q2 o2 u2 <;> cases hb : lessK p2 q2 o2 u2 p q o u <;> rw [ha, hb] at h4 <;> simp at h4 ⊢ <;> exact h4)
  have HAS := Lib.hid (lessK_asym p q o u p2 q2 o2 u2)
  have HTR := Lib.hid (fun h1 h2 => lessK_trans (p := p) (q := q) (o := o) (u := u) (p2 := p2) (q2 := q2) (o2 := o2) (u2 := u2) (p3 := p3) (q3 := q3) (o3 := o3) (u3 := u3) h1 h2)
  rw [HSM.out] at EQK
  clear hT hp hq ho hp2 hq2 ho2 HSM
  generalize lessK p q o u p2 q2 o2 u2 = ab at *
  generalize lessK p2 q2 o2 u2 p q o u = ba at *
  generalize lessK p2 q2 o2 u2 p3 q3 o3 u3 = bc at *
  generalize lessK p q o u p3 q3 o3 u3 = ac at *
  go_enter Tryd.func4, Tryd.ntmps4
  go_upto_region 1 with fail
  generalize hg0 : w.heap.size = g0 at *
  have HG0 := Lib.hid hg0
  generalize ((((w.alloc (.cells #[.int .i64 p, .int .i64 q, .int .i64 o, .bool u] 25)).alloc (.cells #[.int .i64 p2, .int .i64 q2, .int .i64 o2, .bool u2] 25))).alloc (.cells #[.int .i64 p3, .int .i64 q3, .int .i64 o3, .bool u3] 25)) = w1 at *
  clear hg0
  have AL1 := Lib.hid (HAL.out w1 HB.out)
  go_wp2_with fail
  refine AL1.out.mono ?_
  rintro e w2 ⟨rfl, hb⟩
  have HB2 := Lib.hid (HB.out.trans (hb.mono (HG0.out ▸ HB.out.size)))
  have A2 := Lib.hid (A.out.keep hb A.out.lt)
  have B2 := Lib.hid (B.out.keep hb B.out.lt)
  have C2 := Lib.hid (C.out.keep hb C.out.lt)
  clear hb HB A B C AL1 HAL
  go_upto_region 3 with fail
  refine held_begin (fun w' => Below w2.heap.size w2 w') 8 [false, false, false, false, false, false, false, false] (by kernel_rfl) rfl (by rfl) ?_
  have hHeld : Below w2.heap.size w2 w2.drew := (Below.refl _ _).drew
  refine held_take (v := .agg #[.int .i64 p, .int .i64 q, .int .i64 o, .bool u]) 0 11 [true, false, false, false, false, false, false, false] rfl (by rfl) (by rfl) (by kernel_rfl) (by kernel_rfl) (by kernel_rfl) (by rfl) (fun _ _ _ h => h) (fun w' h => run_op_load rfl rfl (((A2.out.keep h A2.out.lt).range 0 [.int .i64 p, .int .i64 q, .int .i64 o, .bool u] rfl)) Tryd.underlying25 rfl key_size) hHeld ?_
  simp only [Act.put, List.setIfInBounds_toArray, List.set_cons_zero, List.set_cons_succ]
  refine held_take (v := .agg #[.int .i64 p2, .int .i64 q2, .int .i64 o2, .bool u2]) 1 12 [true, true, false, false, false, false, false, false] rfl (by rfl) (by rfl) (by kernel_rfl) (by kernel_rfl) (by kernel_rfl) (by rfl) (fun _ _ _ h => h) (fun w' h => run_op_load rfl rfl (((B2.out.keep h B2.out.lt).range 0 [.int .i64 p2, .int .i64 q2, .int .i64 o2, .bool u2] rfl)) Tryd.underlying25 rfl key_size) hHeld ?_
  simp only [Act.put, List.setIfInBounds_toArray, List.set_cons_zero, List.set_cons_succ]
  refine held_take (v := .agg #[.int .i64 p2, .int .i64 q2, .int .i64 o2, .bool u2]) 3 14 [true, true, false, true, false, false, false, false] rfl (by rfl) (by rfl) (by kernel_rfl) (by kernel_rfl) (by kernel_rfl) (by rfl) (fun _ _ _ h => h) (fun w' h => run_op_load rfl rfl (((B2.out.keep h B2.out.lt).range 0 [.int .i64 p2, .int .i64 q2, .int .i64 o2, .bool u2] rfl)) Tryd.underlying25 rfl key_size) hHeld ?_
  simp only [Act.put, List.setIfInBounds_toArray, List.set_cons_zero, List.set_cons_succ]
  refine held_take (v := .agg #[.int .i64 p, .int .i64 q, .int .i64 o, .bool u]) 4 15 [true, true, false, true, true, false, false, false] rfl (by rfl) (by rfl) (by kernel_rfl) (by kernel_rfl) (by kernel_rfl) (by rfl) (fun _ _ _ h => h) (fun w' h => run_op_load rfl rfl (((A2.out.keep h A2.out.lt).range 0 [.int .i64 p, .int .i64 q, .int .i64 o, .bool u] rfl)) Tryd.underlying25 rfl key_size) hHeld ?_
  simp only [Act.put, List.setIfInBounds_toArray, List.set_cons_zero, List.set_cons_succ]
  refine held_call 2 13 [true, true, true, true, true, false, false, false] (by kernel_rfl) rfl (by rfl) (by rfl) (by rfl) (by go_simp) ((CAB.out _).mono ?_)
  rintro e w3 ⟨rfl, hb3⟩
  refine ⟨_, rfl, hHeld.trans (hb3.mono hHeld.size), fun hHeld => ?_⟩
  simp only [Act.put, List.setIfInBounds_toArray, List.set_cons_zero, List.set_cons_succ]
  refine held_call 5 16 [true, true, true, true, true, true, false, false] (by kernel_rfl) rfl (by rfl) (by rfl) (by rfl) (by go_simp) ((CBA.out _).mono ?_)
  rintro e w4 ⟨rfl, hb4⟩
  refine ⟨_, rfl, hHeld.trans (hb4.mono hHeld.size), fun hHeld => ?_⟩
  simp only [Act.put, List.setIfInBounds_toArray, List.set_cons_zero, List.set_cons_succ]
  refine held_take (v := ?_) 6 7 [true, true, true, true, true, true, true, false] rfl (by rfl) (by rfl) (by kernel_rfl) (by kernel_rfl) (by kernel_rfl) (by rfl) (fun _ _ _ h => h) ?_ hHeld ?_
  rotate_left
  · intro w hSw; go_simp <;> with_reducible rfl
  simp only [Act.put, List.setIfInBounds_toArray, List.set_cons_zero, List.set_cons_succ]
  refine held_take (v := ?_) 7 8 [true, true, true, true, true, true, true, true] rfl (by rfl) (by rfl) (by kernel_rfl) (by kernel_rfl) (by kernel_rfl) (by rfl) (fun _ _ _ h => h) ?_ hHeld ?_
  rotate_left
  · intro w hSw; go_simp <;> with_reducible rfl
  simp only [Act.put, List.setIfInBounds_toArray, List.set_cons_zero, List.set_cons_succ]
  refine held_done (by kernel_rfl) ?_
  have HB4 := Lib.hid (HB2.out.trans (hHeld.mono (HG0.out ▸ HB2.out.size)))
  have A4 := Lib.hid (A2.out.keep hHeld A2.out.lt)
  have B4 := Lib.hid (B2.out.keep hHeld B2.out.lt)
  have C4 := Lib.hid (C2.out.keep hHeld C2.out.lt)
  clear hHeld hb3 hb4 HB2 A2 B2 C2
  have TK : RowT 25 ([.int .i64 p, .int .i64 q, .int .i64 o, .bool u] : List Value).length := ⟨⟨_, Tryd.underlying25, rfl⟩, key_size⟩
  have TK2 : RowT 25 ([.int .i64 p2, .int .i64 q2, .int .i64 o2, .bool u2] : List Value).length := TK
  have TK3 : RowT 25 ([.int .i64 p3, .int .i64 q3, .int .i64 o3, .bool u3] : List Value).length := TK
  have key_grd : Tryd.prog.eqGuardType Tryd.prog.depth 25 = false := by kernel_rfl
  have ra := A4.out.range 0 [.int .i64 p, .int .i64 q, .int .i64 o, .bool u] rfl
  have rb := B4.out.range 0 [.int .i64 p2, .int .i64 q2, .int .i64 o2, .bool u2] rfl
  have rc := C4.out.range 0 [.int .i64 p3, .int .i64 q3, .int .i64 o3, .bool u3] rfl
  cases ab
  · have EQ2 : Hid (∀ w, (binOp .eql 25 (.agg #[.int .i64 p, .int .i64 q, .int .i64 o, .bool u]) (.agg #[.int .i64 p2, .int .i64 q2, .int .i64 o2, .bool u2])).run Tryd.prog w = .ok (.bool (!ba)) w) := EQK
    clear EQK
    cases ba
    · go_wp2_with (first | ((with_reducible refine ld_row ra TK ?_ ?_ ?_); (· rfl); (· rfl); (simp only [Act.put, List.setIfInBounds_toArray, List.set_cons_zero, List.set_cons_succ])) | ((with_reducible refine ld_row rb TK2 ?_ ?_ ?_); (· rfl); (· rfl); (simp only [Act.put, List.setIfInBounds_toArray, List.set_cons_zero, List.set_cons_succ])) | ((with_reducible refine cmp_row key_grd EQ2.out ?_ ?_ ?_ ?_); (· rfl); (· rfl); (· rfl); (simp only [Act.put, List.setIfInBounds_toArray, List.set_cons_zero, List.set_cons_succ])))
      go_ret
      have hge := HG0.out
      subst hge
      exact ⟨rfl, HB4.out⟩
    · go_wp2_with (first | ((with_reducible refine ld_row ra TK ?_ ?_ ?_); (· rfl); (· rfl); (simp only [Act.put, List.setIfInBounds_toArray, List.set_cons_zero, List.set_cons_succ])) | ((with_reducible refine ld_row rb TK2 ?_ ?_ ?_); (· rfl); (· rfl); (simp only [Act.put, List.setIfInBounds_toArray, List.set_cons_zero, List.set_cons_succ])) | ((with_reducible refine cmp_row key_grd EQ2.out ?_ ?_ ?_ ?_); (· rfl); (· rfl); (· rfl); (simp only [Act.put, List.setIfInBounds_toArray, List.set_cons_zero, List.set_cons_succ])))
      go_ret
      have hge := HG0.out
      subst hge
      exact ⟨rfl, HB4.out⟩
  · cases ba
    · have EQ2 : Hid (∀ w, (binOp .eql 25 (.agg #[.int .i64 p, .int .i64 q, .int .i64 o, .bool u]) (.agg #[.int .i64 p2, .int .i64 q2, .int .i64 o2, .bool u2])).run Tryd.prog w = .ok (.bool false) w) := EQK
      clear EQK
      go_wp2_with (first | ((with_reducible refine ld_row ra TK ?_ ?_ ?_); (· rfl); (· rfl); (simp only [Act.put, List.setIfInBounds_toArray, List.set_cons_zero, List.set_cons_succ])) | ((with_reducible refine ld_row rb TK2 ?_ ?_ ?_); (· rfl); (· rfl); (simp only [Act.put, List.setIfInBounds_toArray, List.set_cons_zero, List.set_cons_succ])) | ((with_reducible refine ld_row rc TK3 ?_ ?_ ?_); (· rfl); (· rfl); (simp only [Act.put, List.setIfInBounds_toArray, List.set_cons_zero, List.set_cons_succ])) | ((with_reducible refine cmp_row key_grd EQ2.out ?_ ?_ ?_ ?_); (· rfl); (· rfl); (· rfl); (simp only [Act.put, List.setIfInBounds_toArray, List.set_cons_zero, List.set_cons_succ])))
      refine (CBC.out _).mono ?_
      rintro e w5 ⟨rfl, hb⟩
      have HB5 := Lib.hid (HB4.out.trans (hb.mono (HG0.out ▸ HB4.out.size)))
      have A5 := Lib.hid (A4.out.keep hb A4.out.lt)
      have C5 := Lib.hid (C4.out.keep hb C4.out.lt)
      clear hb HB4 A4 B4 C4 ra rb rc
      have ra := A5.out.range 0 [.int .i64 p, .int .i64 q, .int .i64 o, .bool u] rfl
      have rc := C5.out.range 0 [.int .i64 p3, .int .i64 q3, .int .i64 o3, .bool u3] rfl
      cases bc
      · go_wp2_with (first | ((with_reducible refine ld_row ra TK ?_ ?_ ?_); (· rfl); (· rfl); (simp only [Act.put, List.setIfInBounds_toArray, List.set_cons_zero, List.set_cons_succ])) | ((with_reducible refine ld_row rc TK3 ?_ ?_ ?_); (· rfl); (· rfl); (simp only [Act.put, List.setIfInBounds_toArray, List.set_cons_zero, List.set_cons_succ])))
        go_ret
        have hge := HG0.out
        subst hge
        exact ⟨rfl, HB5.out⟩
      · have hac : ac = true := HTR.out (by first | rfl | trivial) (by first | rfl | trivial)
        subst hac
        go_wp2_with (first | ((with_reducible refine ld_row ra TK ?_ ?_ ?_); (· rfl); (· rfl); (simp only [Act.put, List.setIfInBounds_toArray, List.set_cons_zero, List.set_cons_succ])) | ((with_reducible refine ld_row rc TK3 ?_ ?_ ?_); (· rfl); (· rfl); (simp only [Act.put, List.setIfInBounds_toArray, List.set_cons_zero, List.set_cons_succ])))
        refine (CAC.out _).mono ?_
        rintro e w6 ⟨rfl, hb⟩
        have HB6 := Lib.hid (HB5.out.trans (hb.mono (HG0.out ▸ HB5.out.size)))
        clear hb
        go_wp2_with fail
        go_ret
        have hge := HG0.out
        subst hge
        exact ⟨rfl, HB6.out⟩
    · exact absurd ⟨rfl, rfl⟩ HAS.out
theorem orders06_law (v0 v1 v2 : Value) (w : World) (hL : laidMet Tryd.prog Rows.identOrdersRow.laid w) (h0 : Arg Tryd.prog w 25 v0) (h1 : Arg Tryd.prog w 25 v1) (h2 : Arg Tryd.prog w 25 v2) : Calls Tryd.prog 4 #[v0, v1, v2] w fun e w' => e = .returned (.bool true) ∧ Below w.heap.size w w' := by
  have hT : PTab w := ptab6 hL (l := Rows.identOrdersRow.laid) (List.Mem.tail _ (List.Mem.tail _ (List.Mem.head _)))
  obtain ⟨p, q, o, u, rfl, f1, f2, f3⟩ := h0.key
  obtain ⟨p2, q2, o2, u2, rfl, g1, g2, g3⟩ := h1.key
  obtain ⟨p3, q3, o3, u3, rfl, _, _, _⟩ := h2.key
  exact orders06 p q o u p2 q2 o2 u2 p3 q3 o3 u3 w hT f1 f2 f3 g1 g2 g3
end Go.Proofs.YtbdonjapcpfgiaaDoor
