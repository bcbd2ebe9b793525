/- A new order in an empty booking. -/
import Derived.Test.YtlhebimfkdcidaaDeal6
import Derived.Test.YtlhebimfkdcidaaHeld
import Derived.Test.YtlhebimfkdcidaaApp
import Derived.Test.YtlhebimfkdcidaaLd
import Derived.Test.YtlhebimfkdcidaaBookRd
namespace Go.Proofs.Ytlhebimfkdcidaa
set_option linter.unusedVariables false
set_option linter.unusedSimpArgs false
open Go.ChangeShapes Go.WideShapes Go.ChangeAt Go.RowKit
section
variable {P : Program} {ops : Array Oper} {Q : Exit → Act → World → Prop} {md : Region.Mode} {S : World → Prop}
/-- an operation whose guard says no. -/
theorem held_drop (i d : Nat) (l' : List Bool) {l : List Bool} {oi : Oper} {fuel : Nat} {a : Act} {w : World} (hi : ops[i]? = some oi) (hd : oi.dst = some d) (hl : l.set i true = l')
    (hs : Region.noSelect ops = true) (hf : Region.free md ops l.toArray i = true) (hr : (Region.ready md ops l.toArray).contains i = true)
    (hw : Region.wanted oi (yielded ops a.tmps) = false)
    (hQ : ∀ c a w, Q (.panic c) (a.put oi.dst undef) w → Q (.panic c) a w) (hS : S w)
    (h : wpAnyH P md ops Q S fuel l'.toArray (a.put (some d) undef) w) : wpAnyH P md ops Q S (fuel + 1) l.toArray a w :=
  wpAnyH_take hi hs hf hr hQ (Or.inr ⟨hw, rfl⟩) hS (by rw [List.setIfInBounds_toArray, hl, hd]; exact h)
end
theorem sl_blk {w : World} {g t n sz : Nat} {cs : List Value} (h : Blk w g cs t) (hl : cs.length = n * sz) : Sl w (some ⟨g, 0, none⟩) n sz cs := ⟨hl, Or.inr ⟨g, 0, rfl, h.lt, fun j hj => by rw [Nat.zero_add, h.cell j, List.getD_eq_getElem?_getD, List.getElem?_eq_getElem (by omega)]; rfl⟩⟩
theorem o7_info : (Try.prog.info? 29).map (fun i => (i.zero, i.size, i.bytes)) = some (some (.agg #[.int .i64 0, .int .i64 0, .int .i64 0, .int .i64 0, .int .i64 0, .int .i64 0, .int .i64 0]), 7, 56) := by kernel_rfl
theorem clone_nil (w : World) : Calls Try.prog 18 #[.slice none 0 0] w fun e w' => e = .returned (.slice none 0 0) ∧ w = w' := by
  have q := fun (w : World) (a : Option Addr) (n c : Nat) => Lib.run_eql_slice_nil (P := Try.prog) w 23 29 a n c 0 0 Try.underlying23
  go_enter Try.func18, Try.ntmps18
  go_wp2_with fail
  go_ret
  exact ⟨rfl, rfl⟩
set_option maxHeartbeats 2000000 in
theorem insert_nil (g : Nat) (xs : List Int) (w : World) (hs : Hid (Sl w (some ⟨g, 0, none⟩) 1 7 (ints xs))) :
    Calls Try.prog 21 #[.slice none 0 0, .int .i64 0, .slice (some ⟨g, 0, none⟩) 1 1] w fun e w' => ∃ a' c', e = .returned (.slice a' 1 c') ∧ w'.ownsRow w.heap.size 29 7 (.slice a' 1 c') 1 (ints xs) ∧ Below w.heap.size w w' := by
  obtain ⟨i0, hi, hz0, hz1, hz2⟩ := info_parts o7_info
  have HO : Hid (w.ownsRow w.heap.size 29 7 (.slice none 0 0) 0 []) := Lib.hid ⟨by simp, Or.inl ⟨rfl, rfl⟩⟩
  have hq := Nat.le_refl w.heap.size
  go_enter Try.func21, Try.ntmps21
  go_wp2_with (first
    | (at_builtin; refine app_any _ _ 23 29 i0 (.agg #[.int .i64 0, .int .i64 0, .int .i64 0, .int .i64 0, .int .i64 0, .int .i64 0, .int .i64 0]) 7 56 Try.underlying23 hi hz0 hz1 hz2 rfl (by decide) rfl rfl rfl HO.out rfl hs.out (fun h => by cases h) (fun u hu => ints_one hu) ?c1 ?c2 hq ?_))
  case c1 => simp [maxLen]
  case c2 => decide
  intro v' w2 ho hb
  obtain ⟨a2, c2, rfl, _, _, _⟩ := Sl.own ho
  have HS2 := Lib.hid ho
  have HB2 := Lib.hid hb
  clear ho hb
  go_wp2_with fail
  go_ret
  exact ⟨a2, c2, rfl, HS2.out, HB2.out⟩
set_option maxRecDepth 100000 in
set_option maxHeartbeats 4000000 in
theorem put_nil (x0 x1 x2 x3 x4 x5 x6 : Int) (w : World) (hx : fits x0 = true) (hy : fits x1 = true) :
    Calls Try.prog 8 #[.agg (bkc zero8 zero8 zero8 (.slice none 0 0)).toArray, .agg #[.int .i64 x0, .int .i64 x1, .int .i64 x2, .int .i64 x3, .int .i64 x4, .int .i64 x5, .int .i64 x6]] w fun e w' => ∃ a' c', e = .returned (.agg (bkc zero8 zero8 zero8 (.slice a' 1 c')).toArray) ∧ w'.ownsRow w.heap.size 29 7 (.slice a' 1 c') 1 (ints [x0, x1, x2, x3, x4, x5, x6]) ∧ Below w.heap.size w w' := by
  have A1 := ((Blk.new w (bkc zero8 zero8 zero8 (.slice none 0 0)).toArray 25).alloc (.cells #[.int .i64 x0, .int .i64 x1, .int .i64 x2, .int .i64 x3, .int .i64 x4, .int .i64 x5, .int .i64 x6] 29)).alloc (.cells #[.int .i64 0, .int .i64 0, .int .i64 0, .int .i64 0, .int .i64 0, .int .i64 0, .int .i64 0, .int .i64 0, .int .i64 0, .int .i64 0, .int .i64 0, .int .i64 0, .int .i64 0, .int .i64 0, .int .i64 0, .int .i64 0, .int .i64 0, .int .i64 0, .int .i64 0, .int .i64 0, .int .i64 0, .int .i64 0, .int .i64 0, .int .i64 0, .slice none 0 0] 25)
  have B1 : Blk (((w.alloc (.cells (bkc zero8 zero8 zero8 (.slice none 0 0)).toArray 25)).alloc (.cells #[.int .i64 x0, .int .i64 x1, .int .i64 x2, .int .i64 x3, .int .i64 x4, .int .i64 x5, .int .i64 x6] 29)).alloc (.cells #[.int .i64 0, .int .i64 0, .int .i64 0, .int .i64 0, .int .i64 0, .int .i64 0, .int .i64 0, .int .i64 0, .int .i64 0, .int .i64 0, .int .i64 0, .int .i64 0, .int .i64 0, .int .i64 0, .int .i64 0, .int .i64 0, .int .i64 0, .int .i64 0, .int .i64 0, .int .i64 0, .int .i64 0, .int .i64 0, .int .i64 0, .int .i64 0, .slice none 0 0] 25)) (w.alloc (.cells (bkc zero8 zero8 zero8 (.slice none 0 0)).toArray 25)).heap.size (ints [x0, x1, x2, x3, x4, x5, x6]) 29 := (Blk.new (w.alloc (.cells (bkc zero8 zero8 zero8 (.slice none 0 0)).toArray 25)) #[.int .i64 x0, .int .i64 x1, .int .i64 x2, .int .i64 x3, .int .i64 x4, .int .i64 x5, .int .i64 x6] 29).alloc (.cells #[.int .i64 0, .int .i64 0, .int .i64 0, .int .i64 0, .int .i64 0, .int .i64 0, .int .i64 0, .int .i64 0, .int .i64 0, .int .i64 0, .int .i64 0, .int .i64 0, .int .i64 0, .int .i64 0, .int .i64 0, .int .i64 0, .int .i64 0, .int .i64 0, .int .i64 0, .int .i64 0, .int .i64 0, .int .i64 0, .int .i64 0, .int .i64 0, .slice none 0 0] 25)
  have D1 := Blk.new ((w.alloc (.cells (bkc zero8 zero8 zero8 (.slice none 0 0)).toArray 25)).alloc (.cells #[.int .i64 x0, .int .i64 x1, .int .i64 x2, .int .i64 x3, .int .i64 x4, .int .i64 x5, .int .i64 x6] 29)) #[.int .i64 0, .int .i64 0, .int .i64 0, .int .i64 0, .int .i64 0, .int .i64 0, .int .i64 0, .int .i64 0, .int .i64 0, .int .i64 0, .int .i64 0, .int .i64 0, .int .i64 0, .int .i64 0, .int .i64 0, .int .i64 0, .int .i64 0, .int .i64 0, .int .i64 0, .int .i64 0, .int .i64 0, .int .i64 0, .int .i64 0, .int .i64 0, .slice none 0 0] 25
  rw [List.toList_toArray] at A1
  rw [show (w.alloc (.cells (bkc zero8 zero8 zero8 (.slice none 0 0)).toArray 25)).heap.size = w.heap.size + 1 by simp] at B1
  rw [show ((w.alloc (.cells (bkc zero8 zero8 zero8 (.slice none 0 0)).toArray 25)).alloc (.cells #[.int .i64 x0, .int .i64 x1, .int .i64 x2, .int .i64 x3, .int .i64 x4, .int .i64 x5, .int .i64 x6] 29)).heap.size = w.heap.size + 2 by simp] at D1
  have hb1 := (((Below.refl w.heap.size w).alloc (Nat.le_refl _) (.cells (bkc zero8 zero8 zero8 (.slice none 0 0)).toArray 25)).alloc (by simp) (.cells #[.int .i64 x0, .int .i64 x1, .int .i64 x2, .int .i64 x3, .int .i64 x4, .int .i64 x5, .int .i64 x6] 29)).alloc (by simp; omega) (.cells #[.int .i64 0, .int .i64 0, .int .i64 0, .int .i64 0, .int .i64 0, .int .i64 0, .int .i64 0, .int .i64 0, .int .i64 0, .int .i64 0, .int .i64 0, .int .i64 0, .int .i64 0, .int .i64 0, .int .i64 0, .int .i64 0, .int .i64 0, .int .i64 0, .int .i64 0, .int .i64 0, .int .i64 0, .int .i64 0, .int .i64 0, .int .i64 0, .slice none 0 0] 25)
  have CA := Lib.hid (bkc_o L8.zero (.slice none 0 0))
  have SO := Lib.hid (fun v o => bkc_set_o (v := v) L8.zero (o := o))
  have TB := rowB_of (o := .slice none 0 0) L8.zero
  have TI : RowT 27 (ints [x0, x1]).length := rowI
  have TO : RowT 29 (ints [x0, x1, x2, x3, x4, x5, x6]).length := rowO
  have IXC := Lib.hid (fun w' => index_any zero8 zero8 zero8 none 0 0 [] x0 x1 w' (Lib.hid L8.zero) (Lib.hid ⟨rfl, Or.inl rfl⟩) (Lib.hid fun k => rfl) (by decide) hx hy)
  have XI : Hid (((ints [x0, x1, x2, x3, x4, x5, x6]).drop 0).take (ints [x0, x1]).length = ints [x0, x1]) := Lib.hid rfl
  generalize hX : (bkc zero8 zero8 zero8 (.slice none 0 0)) = X at *
  have HX := Lib.hid hX
  clear hX hx hy
  have HA : Hid (Blk (((w.alloc (.cells X.toArray 25)).alloc (.cells #[.int .i64 x0, .int .i64 x1, .int .i64 x2, .int .i64 x3, .int .i64 x4, .int .i64 x5, .int .i64 x6] 29)).alloc (.cells #[.int .i64 0, .int .i64 0, .int .i64 0, .int .i64 0, .int .i64 0, .int .i64 0, .int .i64 0, .int .i64 0, .int .i64 0, .int .i64 0, .int .i64 0, .int .i64 0, .int .i64 0, .int .i64 0, .int .i64 0, .int .i64 0, .int .i64 0, .int .i64 0, .int .i64 0, .int .i64 0, .int .i64 0, .int .i64 0, .int .i64 0, .int .i64 0, .slice none 0 0] 25)) w.heap.size X 25) := Lib.hid A1
  go_enter Try.func8, Try.ntmps8
  go_upto_region 1 with fail
  generalize (((w.alloc (.cells X.toArray 25)).alloc (.cells #[.int .i64 x0, .int .i64 x1, .int .i64 x2, .int .i64 x3, .int .i64 x4, .int .i64 x5, .int .i64 x6] 29)).alloc (.cells #[.int .i64 0, .int .i64 0, .int .i64 0, .int .i64 0, .int .i64 0, .int .i64 0, .int .i64 0, .int .i64 0, .int .i64 0, .int .i64 0, .int .i64 0, .int .i64 0, .int .i64 0, .int .i64 0, .int .i64 0, .int .i64 0, .int .i64 0, .int .i64 0, .int .i64 0, .int .i64 0, .int .i64 0, .int .i64 0, .int .i64 0, .int .i64 0, .slice none 0 0] 25)) = W at *
  have ca := (A1.cell 24).trans CA.out
  have fa := A1.froz 24
  have HB1 := Lib.hid B1
  have HD1 := Lib.hid D1
  have HB := Lib.hid hb1
  clear A1 B1 D1 hb1
  go_wp2_with fail
  refine (clone_nil _).mono ?_
  rintro e w' ⟨rfl, rfl⟩
  have A2 : Hid (Blk (W.setCell ⟨w.heap.size, 24, none⟩ (.slice none 0 0)) w.heap.size X 25) := Lib.hid (by
    have := HA.out.set 24 (.slice none 0 0)
    rw [← HX.out, SO.out, HX.out] at this
    exact this)
  have B2 := Lib.hid (HB1.out.set_other (g' := w.heap.size) (by omega) 24 (.slice none 0 0))
  have D2 := Lib.hid (HD1.out.set_other (g' := w.heap.size) (by omega) 24 (.slice none 0 0))
  have HB2 := Lib.hid (below_set HB.out (Nat.le_refl w.heap.size) 24 (.slice none 0 0))
  clear HA HB1 HD1 HB
  go_upto_region 2 with fail
  generalize W.setCell ⟨w.heap.size, 24, none⟩ (.slice none 0 0) = W2 at *
  clear ca fa
  have rb : W2.rangeAt w.heap.size 0 X := A2.out.range 0 _ (by simp)
  have ri : W2.rangeAt (w.heap.size + 1) 0 (ints [x0, x1]) := B2.out.range 0 _ XI.out
  go_wp2_with (first
    | ((with_reducible refine ld_row rb TB ?_ ?_ ?_); (· rfl); (· rfl); (simp only [Act.put, List.setIfInBounds_toArray, List.set_cons_zero, List.set_cons_succ]))
    | ((with_reducible refine ld_row ri TI ?_ ?_ ?_); (· rfl); (· rfl); (simp only [Act.put, List.setIfInBounds_toArray, List.set_cons_zero, List.set_cons_succ])))
  refine (IXC.out _).mono ?_
  rintro e w4 ⟨rfl, hb4⟩
  rw [show idxTo [] x0 x1 0 = -1 from rfl]
  have HB4 := Lib.hid (HB2.out.trans (hb4.mono HB2.out.size))
  have A4 := Lib.hid (A2.out.keep hb4 A2.out.lt)
  have B4 := Lib.hid (B2.out.keep hb4 B2.out.lt)
  have D4 := Lib.hid (D2.out.keep hb4 D2.out.lt)
  have ca := (A4.out.cell 24).trans CA.out
  clear hb4 rb ri A2 B2 D2 HB2 IXC
  go_upto_region 7 with fail
  go_loopg [6] 0 (fun g s6 wr => s6 = .int .i64 0 ∧ w4 = wr)
  case atStart => exact ⟨rfl, rfl⟩
  obtain ⟨rfl, rfl⟩ := hrel
  go_upto_region 7 with fail
  refine held_begin (fun w' => Below w4.heap.size w4 w') 15 [false, false, false, false, false, false, false, false, false, false, false, false, false, false, false] (by kernel_rfl) rfl (by rfl) ?_
  have hHeld : Below w4.heap.size w4 w4.drew := ⟨rfl, rfl, rfl, Nat.le_refl _, fun _ _ => rfl⟩
  refine held_take (v := ?_) 0 26 [true, false, false, false, false, false, false, false, false, false, false, false, false, false, false] rfl (by rfl) (by rfl) (by kernel_rfl) (by kernel_rfl) (by kernel_rfl) (by rfl) (fun _ _ _ h => h) ?_ hHeld ?_
  rotate_left
  · intro w hSw; go_simp <;> with_reducible rfl
  simp only [Act.put, List.setIfInBounds_toArray, List.set_cons_zero, List.set_cons_succ]
  refine held_take (v := ?_) 1 27 [true, true, false, false, false, false, false, false, false, false, false, false, false, false, false] rfl (by rfl) (by rfl) (by kernel_rfl) (by kernel_rfl) (by kernel_rfl) (by rfl) (fun _ _ _ h => h) ?_ hHeld ?_
  rotate_left
  · intro w hSw; go_simp <;> with_reducible rfl
  simp only [Act.put, List.setIfInBounds_toArray, List.set_cons_zero, List.set_cons_succ]
  refine held_take (v := ?_) 2 28 [true, true, true, false, false, false, false, false, false, false, false, false, false, false, false] rfl (by rfl) (by rfl) (by kernel_rfl) (by kernel_rfl) (by kernel_rfl) (by rfl) (fun _ _ _ h => h) ?_ hHeld ?_
  rotate_left
  · intro w hSw; go_simp <;> with_reducible rfl
  simp only [Act.put, List.setIfInBounds_toArray, List.set_cons_zero, List.set_cons_succ]
  refine held_drop 3 29 [true, true, true, true, false, false, false, false, false, false, false, false, false, false, false] rfl (by rfl) (by rfl) (by kernel_rfl) (by kernel_rfl) (by kernel_rfl) (by rfl) (fun _ _ _ h => h) hHeld ?_
  simp only [Act.put, List.setIfInBounds_toArray, List.set_cons_zero, List.set_cons_succ]
  refine held_drop 4 30 [true, true, true, true, true, false, false, false, false, false, false, false, false, false, false] rfl (by rfl) (by rfl) (by kernel_rfl) (by kernel_rfl) (by kernel_rfl) (by rfl) (fun _ _ _ h => h) hHeld ?_
  simp only [Act.put, List.setIfInBounds_toArray, List.set_cons_zero, List.set_cons_succ]
  refine held_drop 5 31 [true, true, true, true, true, true, false, false, false, false, false, false, false, false, false] rfl (by rfl) (by rfl) (by kernel_rfl) (by kernel_rfl) (by kernel_rfl) (by rfl) (fun _ _ _ h => h) hHeld ?_
  simp only [Act.put, List.setIfInBounds_toArray, List.set_cons_zero, List.set_cons_succ]
  refine held_drop 6 32 [true, true, true, true, true, true, true, false, false, false, false, false, false, false, false] rfl (by rfl) (by rfl) (by kernel_rfl) (by kernel_rfl) (by kernel_rfl) (by rfl) (fun _ _ _ h => h) hHeld ?_
  simp only [Act.put, List.setIfInBounds_toArray, List.set_cons_zero, List.set_cons_succ]
  refine held_drop 7 33 [true, true, true, true, true, true, true, true, false, false, false, false, false, false, false] rfl (by rfl) (by rfl) (by kernel_rfl) (by kernel_rfl) (by kernel_rfl) (by rfl) (fun _ _ _ h => h) hHeld ?_
  simp only [Act.put, List.setIfInBounds_toArray, List.set_cons_zero, List.set_cons_succ]
  refine held_drop 8 34 [true, true, true, true, true, true, true, true, true, false, false, false, false, false, false] rfl (by rfl) (by rfl) (by kernel_rfl) (by kernel_rfl) (by kernel_rfl) (by rfl) (fun _ _ _ h => h) hHeld ?_
  simp only [Act.put, List.setIfInBounds_toArray, List.set_cons_zero, List.set_cons_succ]
  refine held_drop 9 35 [true, true, true, true, true, true, true, true, true, true, false, false, false, false, false] rfl (by rfl) (by rfl) (by kernel_rfl) (by kernel_rfl) (by kernel_rfl) (by rfl) (fun _ _ _ h => h) hHeld ?_
  simp only [Act.put, List.setIfInBounds_toArray, List.set_cons_zero, List.set_cons_succ]
  refine held_drop 10 36 [true, true, true, true, true, true, true, true, true, true, true, false, false, false, false] rfl (by rfl) (by rfl) (by kernel_rfl) (by kernel_rfl) (by kernel_rfl) (by rfl) (fun _ _ _ h => h) hHeld ?_
  simp only [Act.put, List.setIfInBounds_toArray, List.set_cons_zero, List.set_cons_succ]
  refine held_drop 11 37 [true, true, true, true, true, true, true, true, true, true, true, true, false, false, false] rfl (by rfl) (by rfl) (by kernel_rfl) (by kernel_rfl) (by kernel_rfl) (by rfl) (fun _ _ _ h => h) hHeld ?_
  simp only [Act.put, List.setIfInBounds_toArray, List.set_cons_zero, List.set_cons_succ]
  refine held_drop 12 38 [true, true, true, true, true, true, true, true, true, true, true, true, true, false, false] rfl (by rfl) (by rfl) (by kernel_rfl) (by kernel_rfl) (by kernel_rfl) (by rfl) (fun _ _ _ h => h) hHeld ?_
  simp only [Act.put, List.setIfInBounds_toArray, List.set_cons_zero, List.set_cons_succ]
  refine held_drop 13 39 [true, true, true, true, true, true, true, true, true, true, true, true, true, true, false] rfl (by rfl) (by rfl) (by kernel_rfl) (by kernel_rfl) (by kernel_rfl) (by rfl) (fun _ _ _ h => h) hHeld ?_
  simp only [Act.put, List.setIfInBounds_toArray, List.set_cons_zero, List.set_cons_succ]
  refine held_take (v := ?_) 14 40 [true, true, true, true, true, true, true, true, true, true, true, true, true, true, true] rfl (by rfl) (by rfl) (by kernel_rfl) (by kernel_rfl) (by kernel_rfl) (by rfl) (fun _ _ _ h => h) ?_ hHeld ?_
  rotate_left
  · intro w hSw; go_simp <;> with_reducible rfl
  simp only [Act.put, List.setIfInBounds_toArray, List.set_cons_zero, List.set_cons_succ]
  refine held_done (by kernel_rfl) ?_
  have A5 := Lib.hid A4.out.drew
  have B5 := Lib.hid B4.out.drew
  have D5 := Lib.hid D4.out.drew
  have HB5 := Lib.hid HB4.out.drew
  clear hHeld A4 B4 D4 HB4 ca
  generalize w4.drew = w5 at *
  have ca := (A5.out.cell 24).trans CA.out
  have fa := A5.out.froz 24
  have ro : w5.rangeAt (w.heap.size + 1) 0 [.int .i64 x0, .int .i64 x1, .int .i64 x2, .int .i64 x3, .int .i64 x4, .int .i64 x5, .int .i64 x6] := B5.out.range 0 _ rfl
  have TO2 : RowT 29 ([.int .i64 x0, .int .i64 x1, .int .i64 x2, .int .i64 x3, .int .i64 x4, .int .i64 x5, .int .i64 x6] : List Value).length := rowO
  have hb6 := (Below.refl w5.heap.size w5).alloc (Nat.le_refl _) (.cells #[.int .i64 x0, .int .i64 x1, .int .i64 x2, .int .i64 x3, .int .i64 x4, .int .i64 x5, .int .i64 x6] 29)
  have IN := Lib.hid (fun (W : World) (hs : Sl W (some ⟨w5.heap.size, 0, none⟩) 1 7 (ints [x0, x1, x2, x3, x4, x5, x6])) => insert_nil w5.heap.size [x0, x1, x2, x3, x4, x5, x6] W (Lib.hid hs))
  have HSL : Hid (Sl (w5.alloc (.cells #[.int .i64 x0, .int .i64 x1, .int .i64 x2, .int .i64 x3, .int .i64 x4, .int .i64 x5, .int .i64 x6] 29)) (some ⟨w5.heap.size, 0, none⟩) 1 7 (ints [x0, x1, x2, x3, x4, x5, x6])) := Lib.hid (sl_blk (Blk.new w5 #[.int .i64 x0, .int .i64 x1, .int .i64 x2, .int .i64 x3, .int .i64 x4, .int .i64 x5, .int .i64 x6] 29) rfl)
  have A6 := Lib.hid (A5.out.alloc (.cells #[.int .i64 x0, .int .i64 x1, .int .i64 x2, .int .i64 x3, .int .i64 x4, .int .i64 x5, .int .i64 x6] 29))
  have D6 := Lib.hid (D5.out.alloc (.cells #[.int .i64 x0, .int .i64 x1, .int .i64 x2, .int .i64 x3, .int .i64 x4, .int .i64 x5, .int .i64 x6] 29))
  have HB6 := Lib.hid (HB5.out.alloc HB5.out.size (.cells #[.int .i64 x0, .int .i64 x1, .int .i64 x2, .int .i64 x3, .int .i64 x4, .int .i64 x5, .int .i64 x6] 29))
  have ca6 := (A6.out.cell 24).trans CA.out
  have fa6 := A6.out.froz 24
  clear hb6
  go_wp2_with (first
    | ((with_reducible refine ld_row ro TO2 ?_ ?_ ?_); (· rfl); (· rfl); (simp only [Act.put, List.setIfInBounds_toArray, List.set_cons_zero, List.set_cons_succ])))
  refine (IN.out _ HSL.out).mono ?_
  rintro e w7 ⟨a7, c7, rfl, hs7, hb7⟩
  have A7 := A6.out.keep hb7 A6.out.lt
  have D7 := D6.out.keep hb7 D6.out.lt
  have HB7 := HB6.out.trans (hb7.mono HB6.out.size)
  have ca7 := (A7.cell 24).trans CA.out
  have fa7 := A7.froz 24
  have HS8 := Lib.hid hs7
  have A8 : Hid (Blk (w7.setCell ⟨w.heap.size, 24, none⟩ (.slice a7 1 c7)) w.heap.size (bkc zero8 zero8 zero8 (.slice a7 1 c7)) 25) := Lib.hid (by
    have := A7.set 24 (.slice a7 1 c7)
    rw [← HX.out, SO.out] at this
    exact this)
  have D8 := Lib.hid (D7.set_other (g' := w.heap.size) (by omega) 24 (.slice a7 1 c7))
  have HB8 := Lib.hid (below_set HB7 (Nat.le_refl w.heap.size) 24 (.slice a7 1 c7))
  have HS9 := Lib.hid (own_set HS8.out (show w.heap.size < (w5.alloc (.cells #[.int .i64 x0, .int .i64 x1, .int .i64 x2, .int .i64 x3, .int .i64 x4, .int .i64 x5, .int .i64 x6] 29)).heap.size from A6.out.lt) 24 (.slice a7 1 c7))
  clear A7 D7 HB7 hs7 hb7
  go_upto_region 10 with fail
  generalize w7.setCell ⟨w.heap.size, 24, none⟩ (.slice a7 1 c7) = w8 at *
  clear ca7 fa7 ca6 fa6 ca fa
  have TY := rowB_of (o := .slice a7 1 c7) L8.zero
  have OY := Lib.hid (bkc_one_sl (s := zero8) (p := zero8) (u := zero8) a7 1 c7)
  have LY := Lib.hid (bkc_len L8.zero (o := .slice a7 1 c7))
  generalize hY : bkc zero8 zero8 zero8 (.slice a7 1 c7) = Y at *
  have HY := Lib.hid hY
  clear hY
  have rb : w8.rangeAt w.heap.size 0 Y := A8.out.range 0 _ (by simp)
  have LO : Hid (([.int .i64 0, .int .i64 0, .int .i64 0, .int .i64 0, .int .i64 0, .int .i64 0, .int .i64 0, .int .i64 0, .int .i64 0, .int .i64 0, .int .i64 0, .int .i64 0, .int .i64 0, .int .i64 0, .int .i64 0, .int .i64 0, .int .i64 0, .int .i64 0, .int .i64 0, .int .i64 0, .int .i64 0, .int .i64 0, .int .i64 0, .int .i64 0, .slice none 0 0] : List Value).length = Y.length) := Lib.hid (by rw [LY.out]; rfl)
  have C5 := Lib.hid (D8.out.setAll Y LO.out.symm)
  have HBZ := Lib.hid (below_sets (show w.heap.size ≤ w.heap.size + 2 by omega) Y 0 _ HB8.out)
  have HSZ := Lib.hid (own_sets (show w.heap.size + 2 < (w5.alloc (.cells #[.int .i64 x0, .int .i64 x1, .int .i64 x2, .int .i64 x3, .int .i64 x4, .int .i64 x5, .int .i64 x6] 29)).heap.size from D6.out.lt) Y 0 HS9.out)
  go_wp2_with (first
    | ((with_reducible refine ld_row rb TY ?_ ?_ ?_); (· rfl); (· rfl); (simp only [Act.put, List.setIfInBounds_toArray, List.set_cons_zero, List.set_cons_succ]))
    | ((with_reducible refine st_row (cs := Y) D8.out LO.out TY OY.out ?_ ?_ ?_); (· rfl); (· rfl); (simp only [Act.put, List.setIfInBounds_toArray, List.set_cons_zero, List.set_cons_succ]); (generalize w8.setCells (w.heap.size + 2) 0 Y = WW at *)))
  refine ret_cell (p := 4) rfl rfl C5.out Try.underlying25 rfl (by rw [TY.2]) rfl ⟨a7, c7, by rw [HY.out], own_base HSZ.out (Nat.le_of_lt A6.out.lt), HBZ.out⟩
end Go.Proofs.Ytlhebimfkdcidaa
