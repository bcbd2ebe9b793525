/- Tell of an answer that may be. -/
import Derived.Test.YteijahcbfncebaaDoorCode5
import Derived.Test.YteijahcbfncebaaDoorHeld
import Derived.Deep.RegionHeld
import Derived.Deep.DeepCutAuto
import Derived.Laws.AppendOwn
import Derived.RegionTactic
import Derived.BigRegion
import Derived.ChangeAlike
namespace Go.Proofs.YteijahcbfncebaaDoor
set_option linter.unusedVariables false
set_option linter.unusedSimpArgs false
open Go.ChangeShapes Go.WideShapes Go.ChangeAt Go.RowKit
section
variable {P : Program} {ops : Array Oper} {Q : Exit → Act → World → Prop} {md : Region.Mode} {S : World → Prop}
/-- an operation by what it does (its own law), in a region that draws its order. -/
theorem op_wp (l' : List Bool) {i : Nat} {l : List Bool} {o : Oper} {fuel : Nat} {a : Act} {w : World} (ho : ops[i]? = some o) (hl : l.set i true = l') (hw : Region.wanted o (yielded ops a.tmps) = true)
    (hx : Oper.wp P o a w (fun a' w' => S w' ∧ wpAnyH P md ops Q S fuel l'.toArray a' w') Q) : wpOp P ops Q i (fun a' w' => S w' ∧ wpAnyH P md ops Q S fuel (l.toArray.setIfInBounds i true) a' w') a w := by
  unfold wpOp
  simp only [ho, hw, if_true]
  refine .inl ?_
  rw [List.setIfInBounds_toArray, hl]
  exact hx
theorem op_app (d : Nat) (l' : List Bool) {i : Nat} {l : List Bool} {o : Oper} {fuel : Nat} {a : Act} {w : World} (ho : ops[i]? = some o) (hd : o.dst = some d) (hl : l.set i true = l') (hw : Region.wanted o (yielded ops a.tmps) = true)
    (s x : Operand) (t : TypeId) (hop : o.op = .call { callee := .builtin .append, args := #[s, x], argTypes := #[t, t] })
    (base : Nat) (e : TypeId) (it : TypeInfo) (z : Value) (size bytes : Nat) (ht : P.underlying t = some (.slice e)) (hi : P.info? e = some it) (hz : it.zero = some z)
    (hsize : it.size = size) (hby : it.bytes = bytes) (hzs : z.cells.size = size) (hsz : 0 < size)
    (v : Value) (n : Nat) (xs : List Value) (hs : a.eval s = v) (hown : w.ownsRow base e size v n xs)
    (ad : Addr) (m c : Nat) (news : List Value) (hx : a.eval x = .slice (some ad) m c) (hln : news.length = m * size) (hnews : ∀ j u, news[j]? = some u → w.cell? (ad.add j) = some u) (h1 : ∀ u ∈ news, u.oneCell' = true)
    (h63 : n + m ≤ maxLen) (hbytes : (n + m) * bytes ≤ 140737488355328) (hbase : base ≤ w.heap.size)
    (h : ∀ v' w', w'.ownsRow base e size v' (n + m) (xs ++ news) → w.grownBy w' v.ownBlock → S w' ∧ wpAnyH P md ops Q S fuel l'.toArray (a.put (some d) v') w') :
    wpOp P ops Q i (fun a' w' => S w' ∧ wpAnyH P md ops Q S fuel (l.toArray.setIfInBounds i true) a' w') a w :=
  op_wp l' ho hl hw (wp_append_own w s x t hop base e it z size bytes ht hi hz hsize hby hzs hsz v n xs hs hown ad m c news hx hln hnews h1 h63 hbytes hbase fun v' w' h2 h3 _ => by rw [hd]; exact h v' w' h2 h3)
end
set_option maxRecDepth 100000 in
set_option maxHeartbeats 4000000 in
theorem tell_yes (x n m : Int) (w : World) (hx : inB x 0 255 = true) (hm : inB m 0 255 = true) (hn : inB n 0 2147483647 = true) :
    Calls Tryd.prog 18 #[.agg #[.int .i64 x, .int .i64 n, .int .i64 m]] w fun e w' => ∃ a' c', e = .returned (.tuple #[.slice a' 6 c', .int .i64 0]) ∧ Sl w' a' 6 1 (bcells (encA x n m)) ∧ Below w.heap.size w w' := by
  obtain ⟨i0, hi, hzz0, hzz1, hzz2⟩ := info_parts u8_info
  have CX := Lib.hid (fun w => by have := maybyte_any x w; rwa [hx] at this)
  have CM := Lib.hid (fun w => by have := maybyte_any m w; rwa [hm] at this)
  have CN := Lib.hid (fun w => by have := maynum_any n w; rwa [hn] at this)
  clear hx hm hn
  have HAW : Hid (Blk (w.alloc (.cells #[.int .i64 x, .int .i64 n, .int .i64 m] 49)) w.heap.size [.int .i64 x, .int .i64 n, .int .i64 m] 49) := Lib.hid (Blk.new w #[.int .i64 x, .int .i64 n, .int .i64 m] 49)
  have HBW := Lib.hid ((Below.refl w.heap.size w).alloc (Nat.le_refl _) (.cells #[.int .i64 x, .int .i64 n, .int .i64 m] 49))
  go_enter Tryd.func18, Tryd.ntmps18
  go_upto_region 1 with fail
  generalize w.alloc (.cells #[.int .i64 x, .int .i64 n, .int .i64 m] 49) = x0 at *
  have HA0 := HAW
  have HB0 := HBW
  clear HAW HBW
  have d0 : x0.cell? ⟨w.heap.size, 0, none⟩ = some (.int .i64 x) := HA0.out.cell 0
  have d1 : x0.cell? ⟨w.heap.size, 1, none⟩ = some (.int .i64 n) := HA0.out.cell 1
  have d2 : x0.cell? ⟨w.heap.size, 2, none⟩ = some (.int .i64 m) := HA0.out.cell 2
  go_wp2_with fail
  refine (CX.out _).mono ?_
  rintro e w0 ⟨rfl, rfl⟩
  go_wp2_with fail
  refine (CM.out _).mono ?_
  rintro e w1 ⟨rfl, rfl⟩
  go_wp2_with fail
  refine (CN.out _).mono ?_
  rintro e w2 ⟨rfl, rfl⟩
  go_upto_region 3 with fail
  clear d0 d1 d2
  have HW := Lib.hid (u64_wrap n)
  refine held_begin (fun w' => Below x0.heap.size x0 w') 15 [false, false, false, false, false, false, false, false, false, false, false, false, false, false, false] (by kernel_rfl) rfl (by rfl) ?_
  have hHeld : Below x0.heap.size x0 x0.drew := ⟨rfl, rfl, rfl, Nat.le_refl _, fun _ _ => rfl⟩
  refine held_take (v := ?_) 0 20 [true, false, false, false, false, false, false, false, false, false, false, false, false, false, false] rfl (by rfl) (by rfl) (by kernel_rfl) (by kernel_rfl) (by kernel_rfl) (by rfl) (fun _ _ _ h => h) ?_ hHeld ?_
  rotate_left
  · intro w hSw; go_simp <;> with_reducible rfl
  simp only [Act.put, List.setIfInBounds_toArray, List.set_cons_zero, List.set_cons_succ]
  refine held_take (v := .int .i64 x) 1 21 [true, true, false, false, false, false, false, false, false, false, false, false, false, false, false] rfl (by rfl) (by rfl) (by kernel_rfl) (by kernel_rfl) (by kernel_rfl) (by rfl) (fun _ _ _ h => h) (fun w' h => run_op_one rfl rfl Tryd.underlying31 rfl ((HA0.out.keep h HA0.out.lt).cell 0)) hHeld ?_
  simp only [Act.put, List.setIfInBounds_toArray, List.set_cons_zero, List.set_cons_succ]
  refine held_take (v := ?_) 2 22 [true, true, true, false, false, false, false, false, false, false, false, false, false, false, false] rfl (by rfl) (by rfl) (by kernel_rfl) (by kernel_rfl) (by kernel_rfl) (by rfl) (fun _ _ _ h => h) ?_ hHeld ?_
  rotate_left
  · intro w hSw; go_simp <;> with_reducible rfl
  simp only [Act.put, List.setIfInBounds_toArray, List.set_cons_zero, List.set_cons_succ]
  refine held_take (v := ?_) 4 24 [true, true, true, false, true, false, false, false, false, false, false, false, false, false, false] rfl (by rfl) (by rfl) (by kernel_rfl) (by kernel_rfl) (by kernel_rfl) (by rfl) (fun _ _ _ h => h) ?_ hHeld ?_
  rotate_left
  · intro w hSw; go_simp <;> with_reducible rfl
  simp only [Act.put, List.setIfInBounds_toArray, List.set_cons_zero, List.set_cons_succ]
  refine held_take (v := .int .i64 n) 5 25 [true, true, true, false, true, true, false, false, false, false, false, false, false, false, false] rfl (by rfl) (by rfl) (by kernel_rfl) (by kernel_rfl) (by kernel_rfl) (by rfl) (fun _ _ _ h => h) (fun w' h => run_op_one rfl rfl Tryd.underlying3 rfl ((HA0.out.keep h HA0.out.lt).cell 1)) hHeld ?_
  simp only [Act.put, List.setIfInBounds_toArray, List.set_cons_zero, List.set_cons_succ]
  refine held_take (v := ?_) 6 26 [true, true, true, false, true, true, true, false, false, false, false, false, false, false, false] rfl (by rfl) (by rfl) (by kernel_rfl) (by kernel_rfl) (by kernel_rfl) (by rfl) (fun _ _ _ h => h) ?_ hHeld ?_
  rotate_left
  · intro w hSw; go_simp <;> with_reducible rfl
  simp only [Act.put, List.setIfInBounds_toArray, List.set_cons_zero, List.set_cons_succ]
  rw [HW.out]
  refine held_take (v := ?_) 8 28 [true, true, true, false, true, true, true, false, true, false, false, false, false, false, false] rfl (by rfl) (by rfl) (by kernel_rfl) (by kernel_rfl) (by kernel_rfl) (by rfl) (fun _ _ _ h => h) ?_ hHeld ?_
  rotate_left
  · intro w hSw; go_simp <;> with_reducible rfl
  simp only [Act.put, List.setIfInBounds_toArray, List.set_cons_zero, List.set_cons_succ]
  refine held_take (v := .int .i64 m) 9 29 [true, true, true, false, true, true, true, false, true, true, false, false, false, false, false] rfl (by rfl) (by rfl) (by kernel_rfl) (by kernel_rfl) (by kernel_rfl) (by rfl) (fun _ _ _ h => h) (fun w' h => run_op_one rfl rfl Tryd.underlying3 rfl ((HA0.out.keep h HA0.out.lt).cell 2)) hHeld ?_
  simp only [Act.put, List.setIfInBounds_toArray, List.set_cons_zero, List.set_cons_succ]
  refine held_take (v := ?_) 10 30 [true, true, true, false, true, true, true, false, true, true, true, false, false, false, false] rfl (by rfl) (by rfl) (by kernel_rfl) (by kernel_rfl) (by kernel_rfl) (by rfl) (fun _ _ _ h => h) ?_ hHeld ?_
  rotate_left
  · intro w hSw; go_simp <;> with_reducible rfl
  simp only [Act.put, List.setIfInBounds_toArray, List.set_cons_zero, List.set_cons_succ]
  refine held_two 3 11 (by kernel_rfl) ?_ ?_
  · refine op_value (v := .slice (some ⟨x0.drew.heap.size, 0, none⟩) 1 1) 23 [true, true, true, true, true, true, true, false, true, true, true, false, false, false, false] rfl (by rfl) (by rfl) (by rfl) (by go_simp <;> rfl) (hHeld.alloc hHeld.size (.cells #[.int .u8 (IntKind.u8.wrap x)] 5)) fun hHeld => ?_
    simp only [Act.put, List.setIfInBounds_toArray, List.set_cons_zero, List.set_cons_succ]
    have HL1n : Hid (Sl (x0.drew.alloc (.cells #[.int .u8 (IntKind.u8.wrap x)] 5)) (some ⟨x0.drew.heap.size, 0, none⟩) 1 1 [.int .u8 (IntKind.u8.wrap x)]) := Lib.hid (lit_sl x0.drew [.int .u8 (IntKind.u8.wrap x)] (by simp))
    have hal : Below x0.drew.heap.size x0.drew (x0.drew.alloc (.cells #[.int .u8 (IntKind.u8.wrap x)] 5)) := (Below.refl _ _).alloc (Nat.le_refl _) _
    clear hal 
    generalize hgw : x0.drew.alloc (.cells #[.int .u8 (IntKind.u8.wrap x)] 5) = v1w at *
    clear hgw
    generalize hg1 : x0.drew.heap.size = g11 at *
    clear hg1
    have HL1 := HL1n
    clear HL1n
    refine held_two 7 11 (by kernel_rfl) ?_ ?_
    · have P1 := put_ok (some ⟨g11, 0, none⟩) 1 1 [.int .u8 (IntKind.u8.wrap x)] (u64 n) 4 v1w HL1.out (by simp [Value.oneCell']) (by decide) (by decide) (by decide) (u64_lt n)
      rw [show (((4 : Nat) : Int)) = 4 from rfl] at P1
      have hbs := Lib.hid hHeld.size
      refine op_call 27 [true, true, true, true, true, true, true, true, true, true, true, false, false, false, false] rfl (by rfl) (by rfl) (by rfl) (by go_simp) ((P1).mono ?_)
      rintro e v2w ⟨vv, rfl, ho1, hb1⟩
      refine ⟨_, rfl, hHeld.trans (hb1.mono hHeld.size), fun hHeld => ?_⟩
      simp only [Act.put, List.setIfInBounds_toArray, List.set_cons_zero, List.set_cons_succ]
      have HGBn := Lib.hid hb1.size
      clear P1
      obtain ⟨aa, cc, rfl, _, _, _⟩ := Sl.own ho1
      have HOn := Lib.hid ho1
      clear ho1 hb1 HL1
      generalize hgb : v1w.heap.size = gb at *
      clear hgb
      have HO := HOn
      clear HOn
      have HGB := HGBn
      clear HGBn
      refine held_one 11 (by kernel_rfl) ?_
      refine op_value (v := .slice (some ⟨v2w.heap.size, 0, none⟩) 1 1) 31 [true, true, true, true, true, true, true, true, true, true, true, true, false, false, false] rfl (by rfl) (by rfl) (by rfl) (by go_simp <;> rfl) (hHeld.alloc hHeld.size (.cells #[.int .u8 (IntKind.u8.wrap m)] 5)) fun hHeld => ?_
      simp only [Act.put, List.setIfInBounds_toArray, List.set_cons_zero, List.set_cons_succ]
      have HL2n : Hid (Sl (v2w.alloc (.cells #[.int .u8 (IntKind.u8.wrap m)] 5)) (some ⟨v2w.heap.size, 0, none⟩) 1 1 [.int .u8 (IntKind.u8.wrap m)]) := Lib.hid (lit_sl v2w [.int .u8 (IntKind.u8.wrap m)] (by simp))
      have hal : Below v2w.heap.size v2w (v2w.alloc (.cells #[.int .u8 (IntKind.u8.wrap m)] 5)) := (Below.refl _ _).alloc (Nat.le_refl _) _
      have HOn := Lib.hid (own_stay HO.out hal)
      have HGBn := Lib.hid (Nat.le_trans HGB.out hal.size)
      clear hal HO HGB
      generalize hgw : v2w.alloc (.cells #[.int .u8 (IntKind.u8.wrap m)] 5) = v3w at *
      clear hgw
      generalize hg2 : v2w.heap.size = g23 at *
      clear hg2
      have HO := HOn
      clear HOn
      have HGB := HGBn
      clear HGBn
      have HL2 := HL2n
      clear HL2n
      refine held_one 12 (by kernel_rfl) ?_
      refine op_app 32 [true, true, true, true, true, true, true, true, true, true, true, true, true, false, false] rfl (by rfl) (by rfl) (by rfl) _ _ 30 rfl gb 5 i0 (.int .u8 0) 1 1 Tryd.underlying30 hi hzz0 hzz1 hzz2 rfl (by decide) _ _ _ rfl HO.out ⟨g23, 0, none⟩ 1 1 [.int .u8 (IntKind.u8.wrap m)] rfl rfl HL2.out.cells (by simp [Value.oneCell']) (by decide) (by decide) ?hb ?_
      case hb => exact HGB.out
      intro vv9 v4w ho h3
      have hHeld := Below.grown hHeld h3 hHeld.size (fun g hg => Nat.le_trans hbs.out (HO.out.lt g hg).1)
      refine ⟨hHeld, ?_⟩
      simp only [Act.put, List.setIfInBounds_toArray, List.set_cons_zero, List.set_cons_succ]
      clear h3 HO HL2
      refine held_take (v := ?_) 13 2 [true, true, true, true, true, true, true, true, true, true, true, true, true, true, false] rfl (by rfl) (by rfl) (by kernel_rfl) (by kernel_rfl) (by kernel_rfl) (by rfl) (fun _ _ _ h => h) ?_ hHeld ?_
      rotate_left
      · intro w hSw; go_simp <;> with_reducible rfl
      simp only [Act.put, List.setIfInBounds_toArray, List.set_cons_zero, List.set_cons_succ]
      refine held_take (v := ?_) 14 3 [true, true, true, true, true, true, true, true, true, true, true, true, true, true, true] rfl (by rfl) (by rfl) (by kernel_rfl) (by kernel_rfl) (by kernel_rfl) (by rfl) (fun _ _ _ h => h) ?_ hHeld ?_
      rotate_left
      · intro w hSw; go_simp <;> with_reducible rfl
      simp only [Act.put, List.setIfInBounds_toArray, List.set_cons_zero, List.set_cons_succ]
      refine held_done (by kernel_rfl) ?_
      obtain ⟨a9, c9, rfl, _, _, hs9⟩ := Sl.own ho
      rw [lit1, lit1, ← bcells_add, ← bcells_add] at hs9
      have HF := Lib.hid hs9
      have HBF := Lib.hid (HB0.out.trans (hHeld.mono HB0.out.size))
      clear hs9 ho hHeld
      go_wp2_with fail
      go_ret2
      exact ⟨a9, c9, rfl, HF.out, HBF.out⟩
    · refine op_value (v := .slice (some ⟨v1w.heap.size, 0, none⟩) 1 1) 31 [true, true, true, true, true, true, true, false, true, true, true, true, false, false, false] rfl (by rfl) (by rfl) (by rfl) (by go_simp <;> rfl) (hHeld.alloc hHeld.size (.cells #[.int .u8 (IntKind.u8.wrap m)] 5)) fun hHeld => ?_
      simp only [Act.put, List.setIfInBounds_toArray, List.set_cons_zero, List.set_cons_succ]
      have HL2n : Hid (Sl (v1w.alloc (.cells #[.int .u8 (IntKind.u8.wrap m)] 5)) (some ⟨v1w.heap.size, 0, none⟩) 1 1 [.int .u8 (IntKind.u8.wrap m)]) := Lib.hid (lit_sl v1w [.int .u8 (IntKind.u8.wrap m)] (by simp))
      have hal : Below v1w.heap.size v1w (v1w.alloc (.cells #[.int .u8 (IntKind.u8.wrap m)] 5)) := (Below.refl _ _).alloc (Nat.le_refl _) _
      have HL1n := Lib.hid (HL1.out.keep hal)
      clear hal HL1
      generalize hgw : v1w.alloc (.cells #[.int .u8 (IntKind.u8.wrap m)] 5) = v5w at *
      clear hgw
      generalize hg2 : v1w.heap.size = g25 at *
      clear hg2
      have HL1 := HL1n
      clear HL1n
      have HL2 := HL2n
      clear HL2n
      refine held_one 7 (by kernel_rfl) ?_
      have P1 := put_ok (some ⟨g11, 0, none⟩) 1 1 [.int .u8 (IntKind.u8.wrap x)] (u64 n) 4 v5w HL1.out (by simp [Value.oneCell']) (by decide) (by decide) (by decide) (u64_lt n)
      rw [show (((4 : Nat) : Int)) = 4 from rfl] at P1
      have hbs := Lib.hid hHeld.size
      refine op_call 27 [true, true, true, true, true, true, true, true, true, true, true, true, false, false, false] rfl (by rfl) (by rfl) (by rfl) (by go_simp) ((P1).mono ?_)
      rintro e v6w ⟨vv, rfl, ho1, hb1⟩
      refine ⟨_, rfl, hHeld.trans (hb1.mono hHeld.size), fun hHeld => ?_⟩
      simp only [Act.put, List.setIfInBounds_toArray, List.set_cons_zero, List.set_cons_succ]
      have HGBn := Lib.hid hb1.size
      clear P1
      obtain ⟨aa, cc, rfl, _, _, _⟩ := Sl.own ho1
      have HOn := Lib.hid ho1
      have HL2n := Lib.hid (HL2.out.keep hb1)
      clear ho1 hb1 HL1 HL2
      generalize hgb : v5w.heap.size = gb at *
      clear hgb
      have HL2 := HL2n
      clear HL2n
      have HO := HOn
      clear HOn
      have HGB := HGBn
      clear HGBn
      refine held_one 12 (by kernel_rfl) ?_
      refine op_app 32 [true, true, true, true, true, true, true, true, true, true, true, true, true, false, false] rfl (by rfl) (by rfl) (by rfl) _ _ 30 rfl gb 5 i0 (.int .u8 0) 1 1 Tryd.underlying30 hi hzz0 hzz1 hzz2 rfl (by decide) _ _ _ rfl HO.out ⟨g25, 0, none⟩ 1 1 [.int .u8 (IntKind.u8.wrap m)] rfl rfl HL2.out.cells (by simp [Value.oneCell']) (by decide) (by decide) ?hb ?_
      case hb => exact HGB.out
      intro vv9 v7w ho h3
      have hHeld := Below.grown hHeld h3 hHeld.size (fun g hg => Nat.le_trans hbs.out (HO.out.lt g hg).1)
      refine ⟨hHeld, ?_⟩
      simp only [Act.put, List.setIfInBounds_toArray, List.set_cons_zero, List.set_cons_succ]
      clear h3 HO HL2
      refine held_take (v := ?_) 13 2 [true, true, true, true, true, true, true, true, true, true, true, true, true, true, false] rfl (by rfl) (by rfl) (by kernel_rfl) (by kernel_rfl) (by kernel_rfl) (by rfl) (fun _ _ _ h => h) ?_ hHeld ?_
      rotate_left
      · intro w hSw; go_simp <;> with_reducible rfl
      simp only [Act.put, List.setIfInBounds_toArray, List.set_cons_zero, List.set_cons_succ]
      refine held_take (v := ?_) 14 3 [true, true, true, true, true, true, true, true, true, true, true, true, true, true, true] rfl (by rfl) (by rfl) (by kernel_rfl) (by kernel_rfl) (by kernel_rfl) (by rfl) (fun _ _ _ h => h) ?_ hHeld ?_
      rotate_left
      · intro w hSw; go_simp <;> with_reducible rfl
      simp only [Act.put, List.setIfInBounds_toArray, List.set_cons_zero, List.set_cons_succ]
      refine held_done (by kernel_rfl) ?_
      obtain ⟨a9, c9, rfl, _, _, hs9⟩ := Sl.own ho
      rw [lit1, lit1, ← bcells_add, ← bcells_add] at hs9
      have HF := Lib.hid hs9
      have HBF := Lib.hid (HB0.out.trans (hHeld.mono HB0.out.size))
      clear hs9 ho hHeld
      go_wp2_with fail
      go_ret2
      exact ⟨a9, c9, rfl, HF.out, HBF.out⟩
  · refine op_value (v := .slice (some ⟨x0.drew.heap.size, 0, none⟩) 1 1) 31 [true, true, true, false, true, true, true, false, true, true, true, true, false, false, false] rfl (by rfl) (by rfl) (by rfl) (by go_simp <;> rfl) (hHeld.alloc hHeld.size (.cells #[.int .u8 (IntKind.u8.wrap m)] 5)) fun hHeld => ?_
    simp only [Act.put, List.setIfInBounds_toArray, List.set_cons_zero, List.set_cons_succ]
    have HL2n : Hid (Sl (x0.drew.alloc (.cells #[.int .u8 (IntKind.u8.wrap m)] 5)) (some ⟨x0.drew.heap.size, 0, none⟩) 1 1 [.int .u8 (IntKind.u8.wrap m)]) := Lib.hid (lit_sl x0.drew [.int .u8 (IntKind.u8.wrap m)] (by simp))
    have hal : Below x0.drew.heap.size x0.drew (x0.drew.alloc (.cells #[.int .u8 (IntKind.u8.wrap m)] 5)) := (Below.refl _ _).alloc (Nat.le_refl _) _
    clear hal 
    generalize hgw : x0.drew.alloc (.cells #[.int .u8 (IntKind.u8.wrap m)] 5) = v8w at *
    clear hgw
    generalize hg2 : x0.drew.heap.size = g28 at *
    clear hg2
    have HL2 := HL2n
    clear HL2n
    refine held_one 3 (by kernel_rfl) ?_
    refine op_value (v := .slice (some ⟨v8w.heap.size, 0, none⟩) 1 1) 23 [true, true, true, true, true, true, true, false, true, true, true, true, false, false, false] rfl (by rfl) (by rfl) (by rfl) (by go_simp <;> rfl) (hHeld.alloc hHeld.size (.cells #[.int .u8 (IntKind.u8.wrap x)] 5)) fun hHeld => ?_
    simp only [Act.put, List.setIfInBounds_toArray, List.set_cons_zero, List.set_cons_succ]
    have HL1n : Hid (Sl (v8w.alloc (.cells #[.int .u8 (IntKind.u8.wrap x)] 5)) (some ⟨v8w.heap.size, 0, none⟩) 1 1 [.int .u8 (IntKind.u8.wrap x)]) := Lib.hid (lit_sl v8w [.int .u8 (IntKind.u8.wrap x)] (by simp))
    have hal : Below v8w.heap.size v8w (v8w.alloc (.cells #[.int .u8 (IntKind.u8.wrap x)] 5)) := (Below.refl _ _).alloc (Nat.le_refl _) _
    have HL2n := Lib.hid (HL2.out.keep hal)
    clear hal HL2
    generalize hgw : v8w.alloc (.cells #[.int .u8 (IntKind.u8.wrap x)] 5) = v9w at *
    clear hgw
    generalize hg1 : v8w.heap.size = g19 at *
    clear hg1
    have HL2 := HL2n
    clear HL2n
    have HL1 := HL1n
    clear HL1n
    refine held_one 7 (by kernel_rfl) ?_
    have P1 := put_ok (some ⟨g19, 0, none⟩) 1 1 [.int .u8 (IntKind.u8.wrap x)] (u64 n) 4 v9w HL1.out (by simp [Value.oneCell']) (by decide) (by decide) (by decide) (u64_lt n)
    rw [show (((4 : Nat) : Int)) = 4 from rfl] at P1
    have hbs := Lib.hid hHeld.size
    refine op_call 27 [true, true, true, true, true, true, true, true, true, true, true, true, false, false, false] rfl (by rfl) (by rfl) (by rfl) (by go_simp) ((P1).mono ?_)
    rintro e v10w ⟨vv, rfl, ho1, hb1⟩
    refine ⟨_, rfl, hHeld.trans (hb1.mono hHeld.size), fun hHeld => ?_⟩
    simp only [Act.put, List.setIfInBounds_toArray, List.set_cons_zero, List.set_cons_succ]
    have HGBn := Lib.hid hb1.size
    clear P1
    obtain ⟨aa, cc, rfl, _, _, _⟩ := Sl.own ho1
    have HOn := Lib.hid ho1
    have HL2n := Lib.hid (HL2.out.keep hb1)
    clear ho1 hb1 HL2 HL1
    generalize hgb : v9w.heap.size = gb at *
    clear hgb
    have HL2 := HL2n
    clear HL2n
    have HO := HOn
    clear HOn
    have HGB := HGBn
    clear HGBn
    refine held_one 12 (by kernel_rfl) ?_
    refine op_app 32 [true, true, true, true, true, true, true, true, true, true, true, true, true, false, false] rfl (by rfl) (by rfl) (by rfl) _ _ 30 rfl gb 5 i0 (.int .u8 0) 1 1 Tryd.underlying30 hi hzz0 hzz1 hzz2 rfl (by decide) _ _ _ rfl HO.out ⟨g28, 0, none⟩ 1 1 [.int .u8 (IntKind.u8.wrap m)] rfl rfl HL2.out.cells (by simp [Value.oneCell']) (by decide) (by decide) ?hb ?_
    case hb => exact HGB.out
    intro vv9 v11w ho h3
    have hHeld := Below.grown hHeld h3 hHeld.size (fun g hg => Nat.le_trans hbs.out (HO.out.lt g hg).1)
    refine ⟨hHeld, ?_⟩
    simp only [Act.put, List.setIfInBounds_toArray, List.set_cons_zero, List.set_cons_succ]
    clear h3 HO HL2
    refine held_take (v := ?_) 13 2 [true, true, true, true, true, true, true, true, true, true, true, true, true, true, false] rfl (by rfl) (by rfl) (by kernel_rfl) (by kernel_rfl) (by kernel_rfl) (by rfl) (fun _ _ _ h => h) ?_ hHeld ?_
    rotate_left
    · intro w hSw; go_simp <;> with_reducible rfl
    simp only [Act.put, List.setIfInBounds_toArray, List.set_cons_zero, List.set_cons_succ]
    refine held_take (v := ?_) 14 3 [true, true, true, true, true, true, true, true, true, true, true, true, true, true, true] rfl (by rfl) (by rfl) (by kernel_rfl) (by kernel_rfl) (by kernel_rfl) (by rfl) (fun _ _ _ h => h) ?_ hHeld ?_
    rotate_left
    · intro w hSw; go_simp <;> with_reducible rfl
    simp only [Act.put, List.setIfInBounds_toArray, List.set_cons_zero, List.set_cons_succ]
    refine held_done (by kernel_rfl) ?_
    obtain ⟨a9, c9, rfl, _, _, hs9⟩ := Sl.own ho
    rw [lit1, lit1, ← bcells_add, ← bcells_add] at hs9
    have HF := Lib.hid hs9
    have HBF := Lib.hid (HB0.out.trans (hHeld.mono HB0.out.size))
    clear hs9 ho hHeld
    go_wp2_with fail
    go_ret2
    exact ⟨a9, c9, rfl, HF.out, HBF.out⟩
end Go.Proofs.YteijahcbfncebaaDoor
