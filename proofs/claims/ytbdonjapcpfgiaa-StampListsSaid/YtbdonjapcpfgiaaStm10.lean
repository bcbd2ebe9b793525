/- Of two changes with unlike stamps just one lies ahead. -/
import Derived.Test.YtbdonjapcpfgiaaStm9
import Derived.Test.YtbdonjapcpfgiaaRd
import Derived.Test.YtbdonjapcpfgiaaQt
import Derived.Deep.DeepCutAuto
import Derived.Maps.AppendAt
import Derived.Test.YtbdonjapcpfgiaaRow
import Derived.Test.YtbdonjapcpfgiaaOps
import Derived.RegionTactic
import Derived.BigRegion
import Derived.ChangeAlike
namespace Go.Proofs.Ytbdonjapcpfgiaa
set_option linter.unusedVariables false
set_option linter.unusedSimpArgs false
open Go.ChangeShapes Go.WideShapes Go.ChangeAt Go.RowKit
theorem chg_of {vs : List Value} (h : OkAll (List.replicate 9 (some .i64)) vs) : ∃ p q t k a b n r s, vs = (#[.int .i64 p, .int .i64 q, .int .i64 t, .int .i64 k, .int .i64 a, .int .i64 b, .int .i64 n, .int .i64 r, .int .i64 s] : Array Value).toList ∧ fits p = true ∧ fits q = true := by
  have hl := h.len
  match vs, hl, h with
  | [a0, a1, a2, a3, a4, a5, a6, a7, a8], _, h =>
    obtain ⟨⟨p, rfl, f1⟩, ⟨q, rfl, f2⟩, ⟨t, rfl, f3⟩, ⟨k, rfl, f4⟩, ⟨a, rfl, f5⟩, ⟨b, rfl, f6⟩, ⟨n, rfl, f7⟩, ⟨r, rfl, f8⟩, ⟨s, rfl, f9⟩, _⟩ := h
    exact ⟨p, q, t, k, a, b, n, r, s, rfl, fits_wf f1, fits_wf f2⟩
theorem Arg.chg {w : World} {v : Value} (h : Arg Try.prog w 25 v) : ∃ p q t k a b n r s, v = .agg #[.int .i64 p, .int .i64 q, .int .i64 t, .int .i64 k, .int .i64 a, .int .i64 b, .int .i64 n, .int .i64 r, .int .i64 s] ∧ fits p = true ∧ fits q = true := by
  obtain ⟨cs, rfl, h2⟩ := h.flat_struct Try.underlying25 flatCgS
  obtain ⟨p, q, t, k, a, b, n, r, s, hcs, h⟩ := chg_of h2
  have e : cs = cs.toList.toArray := (Array.toArray_toList).symm
  rw [hcs] at e
  exact ⟨p, q, t, k, a, b, n, r, s, congrArg Value.agg e, h⟩
theorem two_less (p q t k a b n r s p2 q2 t2 k2 a2 b2 n2 r2 s2 : Int) : (t ≠ t2 → (lessC [p, q, t, k, a, b, n, r, s] [p2, q2, t2, k2, a2, b2, n2, r2, s2] = true ∧ lessC [p2, q2, t2, k2, a2, b2, n2, r2, s2] [p, q, t, k, a, b, n, r, s] = false) ∨ (lessC [p, q, t, k, a, b, n, r, s] [p2, q2, t2, k2, a2, b2, n2, r2, s2] = false ∧ lessC [p2, q2, t2, k2, a2, b2, n2, r2, s2] [p, q, t, k, a, b, n, r, s] = true)) ∧
    (t = t2 → (lessC [p, q, t, k, a, b, n, r, s] [p2, q2, t2, k2, a2, b2, n2, r2, s2] = true ∧ lessC [p2, q2, t2, k2, a2, b2, n2, r2, s2] [p, q, t, k, a, b, n, r, s] = false ∧ decide (p = p2 ∧ q = q2) = false) ∨ (lessC [p, q, t, k, a, b, n, r, s] [p2, q2, t2, k2, a2, b2, n2, r2, s2] = false ∧ lessC [p2, q2, t2, k2, a2, b2, n2, r2, s2] [p, q, t, k, a, b, n, r, s] = true ∧ decide (p = p2 ∧ q = q2) = false) ∨ (lessC [p, q, t, k, a, b, n, r, s] [p2, q2, t2, k2, a2, b2, n2, r2, s2] = false ∧ lessC [p2, q2, t2, k2, a2, b2, n2, r2, s2] [p, q, t, k, a, b, n, r, s] = false ∧ decide (p = p2 ∧ q = q2) = true)) := by
  have h1 := less9 p q t k a b n r s p2 q2 t2 k2 a2 b2 n2 r2 s2
  have h2 := less9 p2 q2 t2 k2 a2 b2 n2 r2 s2 p q t k a b n r s
  unfold lessC
  simp only [decide_eq_true_eq, decide_eq_false_iff_not]
  generalize cmpC [p, q, t, k, a, b, n, r, s] [p2, q2, t2, k2, a2, b2, n2, r2, s2] = x at *
  generalize cmpC [p2, q2, t2, k2, a2, b2, n2, r2, s2] [p, q, t, k, a, b, n, r, s] = y at *
  omega
set_option maxRecDepth 100000 in
set_option maxHeartbeats 1000000 in
theorem lies07 (p q t k a b n r s p2 q2 t2 k2 a2 b2 n2 r2 s2 : Int) (w : World) (hp : fits p = true) (hq : fits q = true) (hp2 : fits p2 = true) (hq2 : fits q2 = true) :
    Calls Try.prog 3 #[.agg #[.int .i64 p, .int .i64 q, .int .i64 t, .int .i64 k, .int .i64 a, .int .i64 b, .int .i64 n, .int .i64 r, .int .i64 s], .agg #[.int .i64 p2, .int .i64 q2, .int .i64 t2, .int .i64 k2, .int .i64 a2, .int .i64 b2, .int .i64 n2, .int .i64 r2, .int .i64 s2]] w fun e w' => e = .returned (.bool true) ∧ Below w.heap.size w w' := by
  have HB := Lib.hid (((Below.refl w.heap.size w).alloc (Nat.le_refl _) (.cells #[.int .i64 p, .int .i64 q, .int .i64 t, .int .i64 k, .int .i64 a, .int .i64 b, .int .i64 n, .int .i64 r, .int .i64 s] 25)).alloc (by simp) (.cells #[.int .i64 p2, .int .i64 q2, .int .i64 t2, .int .i64 k2, .int .i64 a2, .int .i64 b2, .int .i64 n2, .int .i64 r2, .int .i64 s2] 25))
  have A := Lib.hid ((Blk.new w #[.int .i64 p, .int .i64 q, .int .i64 t, .int .i64 k, .int .i64 a, .int .i64 b, .int .i64 n, .int .i64 r, .int .i64 s] 25).alloc (.cells #[.int .i64 p2, .int .i64 q2, .int .i64 t2, .int .i64 k2, .int .i64 a2, .int .i64 b2, .int .i64 n2, .int .i64 r2, .int .i64 s2] 25))
  have B : Hid (Blk ((w.alloc (.cells #[.int .i64 p, .int .i64 q, .int .i64 t, .int .i64 k, .int .i64 a, .int .i64 b, .int .i64 n, .int .i64 r, .int .i64 s] 25)).alloc (.cells #[.int .i64 p2, .int .i64 q2, .int .i64 t2, .int .i64 k2, .int .i64 a2, .int .i64 b2, .int .i64 n2, .int .i64 r2, .int .i64 s2] 25)) (w.heap.size + 1) #[.int .i64 p2, .int .i64 q2, .int .i64 t2, .int .i64 k2, .int .i64 a2, .int .i64 b2, .int .i64 n2, .int .i64 r2, .int .i64 s2].toList 25) := Lib.hid (by have := Blk.new (w.alloc (.cells #[.int .i64 p, .int .i64 q, .int .i64 t, .int .i64 k, .int .i64 a, .int .i64 b, .int .i64 n, .int .i64 r, .int .i64 s] 25)) #[.int .i64 p2, .int .i64 q2, .int .i64 t2, .int .i64 k2, .int .i64 a2, .int .i64 b2, .int .i64 n2, .int .i64 r2, .int .i64 s2] 25; simpa using this)
  have HAL := Lib.hid (fun w' => alive07 w')
  have C1 : Hid (∀ w, Calls Try.prog 7 #[.agg ((#[.int .i64 p, .int .i64 q, .int .i64 t, .int .i64 k, .int .i64 a, .int .i64 b, .int .i64 n, .int .i64 r, .int .i64 s] : Array Value).toList).toArray, .agg ((#[.int .i64 p2, .int .i64 q2, .int .i64 t2, .int .i64 k2, .int .i64 a2, .int .i64 b2, .int .i64 n2, .int .i64 r2, .int .i64 s2] : Array Value).toList).toArray] w fun e w' => e = .returned (.bool (lessC [p, q, t, k, a, b, n, r, s] [p2, q2, t2, k2, a2, b2, n2, r2, s2])) ∧ Below w.heap.size w w') := Lib.hid (fun w => sless [p, q, t, k, a, b, n, r, s] [p2, q2, t2, k2, a2, b2, n2, r2, s2] rfl rfl w)
  have C2 : Hid (∀ w, Calls Try.prog 7 #[.agg ((#[.int .i64 p2, .int .i64 q2, .int .i64 t2, .int .i64 k2, .int .i64 a2, .int .i64 b2, .int .i64 n2, .int .i64 r2, .int .i64 s2] : Array Value).toList).toArray, .agg ((#[.int .i64 p, .int .i64 q, .int .i64 t, .int .i64 k, .int .i64 a, .int .i64 b, .int .i64 n, .int .i64 r, .int .i64 s] : Array Value).toList).toArray] w fun e w' => e = .returned (.bool (lessC [p2, q2, t2, k2, a2, b2, n2, r2, s2] [p, q, t, k, a, b, n, r, s])) ∧ Below w.heap.size w w') := Lib.hid (fun w => sless [p2, q2, t2, k2, a2, b2, n2, r2, s2] [p, q, t, k, a, b, n, r, s] rfl rfl w)
  have CR : Hid (∀ w, Calls Try.prog 8 #[.agg #[.int .i64 p, .int .i64 q, .int .i64 t, .int .i64 k, .int .i64 a, .int .i64 b, .int .i64 n, .int .i64 r, .int .i64 s], .agg #[.int .i64 p2, .int .i64 q2, .int .i64 t2, .int .i64 k2, .int .i64 a2, .int .i64 b2, .int .i64 n2, .int .i64 r2, .int .i64 s2]] w fun e w' => e = .returned (.bool (lessC [p, q, t, k, a, b, n, r, s] [p2, q2, t2, k2, a2, b2, n2, r2, s2])) ∧ Below w.heap.size w w') := Lib.hid (fun w => rsless [p, q, t, k, a, b, n, r, s] [p2, q2, t2, k2, a2, b2, n2, r2, s2] rfl rfl w)
  have NE := Lib.hid (fun w => id_eqlS hp hq hp2 hq2 w)
  have TL := Lib.hid (two_less p q t k a b n r s p2 q2 t2 k2 a2 b2 n2 r2 s2)
  clear hp hq hp2 hq2
  generalize lessC [p, q, t, k, a, b, n, r, s] [p2, q2, t2, k2, a2, b2, n2, r2, s2] = v1 at *
  generalize lessC [p2, q2, t2, k2, a2, b2, n2, r2, s2] [p, q, t, k, a, b, n, r, s] = v2 at *
  generalize decide (p = p2 ∧ q = q2) = v at *
  go_enter Try.func3, Try.ntmps3
  go_upto_region 1 with fail
  generalize hg0 : w.heap.size = g0 at *
  have HG0 := Lib.hid hg0
  generalize (w.alloc (.cells #[.int .i64 p, .int .i64 q, .int .i64 t, .int .i64 k, .int .i64 a, .int .i64 b, .int .i64 n, .int .i64 r, .int .i64 s] 25)).alloc (.cells #[.int .i64 p2, .int .i64 q2, .int .i64 t2, .int .i64 k2, .int .i64 a2, .int .i64 b2, .int .i64 n2, .int .i64 r2, .int .i64 s2] 25) = w1 at *
  clear hg0
  have AL1 := Lib.hid (HAL.out w1)
  go_wp2_with fail
  refine AL1.out.mono ?_
  rintro e w2 ⟨rfl, hb⟩
  have HB2 := Lib.hid (HB.out.trans (hb.mono (HG0.out ▸ HB.out.size)))
  have A2 := Lib.hid (A.out.keep hb A.out.lt)
  have B2 := Lib.hid (B.out.keep hb B.out.lt)
  have l1 := Lib.hid A2.out.lt
  have l2 := Lib.hid B2.out.lt
  clear hb HB A B AL1 HAL
  go_upto_region 3 with fail
  refine q_begin (by kernel_rfl) (by kernel_rfl) ?_
  repeat (first
    | go_big_quiet_skip
    | ((with_reducible apply q_row); (· rfl); (· rfl); (· exact Try.underlying25); (· rfl); (· exact A2.out); (· exact l1.out); (· exact rowChg.2); (simp only [Act.put, List.setIfInBounds_toArray, List.set_cons_zero, List.set_cons_succ]))
    | ((with_reducible apply q_row); (· rfl); (· rfl); (· exact Try.underlying25); (· rfl); (· exact B2.out); (· exact l2.out); (· exact rowChg.2); (simp only [Act.put, List.setIfInBounds_toArray, List.set_cons_zero, List.set_cons_succ]))
    | ((with_reducible apply q_call 7 (.bool v1)); (· rfl); (· exact Nat.le_refl _); (· intro w _; exact C1.out w); (· intro w; go_simp); (simp only [Act.put, List.setIfInBounds_toArray, List.set_cons_zero, List.set_cons_succ]))
    | ((with_reducible apply q_call 7 (.bool v2)); (· rfl); (· exact Nat.le_refl _); (· intro w _; exact C2.out w); (· intro w; go_simp); (simp only [Act.put, List.setIfInBounds_toArray, List.set_cons_zero, List.set_cons_succ]))
    | (go_big_quiet_want; go_big_quiet_op; (first | go_big_quiet_on | (apply Exists.intro; refine ⟨fun _ _ => rfl, ?_⟩; go_big_quiet_on))))
  refine q_end ?_
  intro w3 hb
  have HB3 := Lib.hid (HB2.out.trans (hb.mono (HG0.out ▸ HB2.out.size)))
  have A3 := Lib.hid (A2.out.keep hb A2.out.lt)
  have B3 := Lib.hid (B2.out.keep hb B2.out.lt)
  clear hb A2 B2 l1 l2 HB2 C1 C2
  have c2 : w3.cell? ⟨g0, 2, none⟩ = some (.int .i64 t) := A3.out.cell 2
  have c22 : w3.cell? ⟨(g0 + 1), 2, none⟩ = some (.int .i64 t2) := B3.out.cell 2
  have ra : w3.rangeAt g0 0 (ints [p, q]) := A3.out.range 0 _ rfl
  have rb : w3.rangeAt (g0 + 1) 0 (ints [p2, q2]) := B3.out.range 0 _ rfl
  have rA : w3.rangeAt g0 0 (#[.int .i64 p, .int .i64 q, .int .i64 t, .int .i64 k, .int .i64 a, .int .i64 b, .int .i64 n, .int .i64 r, .int .i64 s] : Array Value).toList := A3.out.range 0 _ rfl
  have rB : w3.rangeAt (g0 + 1) 0 (#[.int .i64 p2, .int .i64 q2, .int .i64 t2, .int .i64 k2, .int .i64 a2, .int .i64 b2, .int .i64 n2, .int .i64 r2, .int .i64 s2] : Array Value).toList := B3.out.range 0 _ rfl
  have TI : RowT 23 (ints [p, q]).length := rowIdS
  have TJ : RowT 23 (ints [p2, q2]).length := rowIdS
  have TA : RowT 25 ((#[.int .i64 p, .int .i64 q, .int .i64 t, .int .i64 k, .int .i64 a, .int .i64 b, .int .i64 n, .int .i64 r, .int .i64 s] : Array Value).toList).length := rowChg
  have TB : RowT 25 ((#[.int .i64 p2, .int .i64 q2, .int .i64 t2, .int .i64 k2, .int .i64 a2, .int .i64 b2, .int .i64 n2, .int .i64 r2, .int .i64 s2] : Array Value).toList).length := rowChg
  by_cases ht : t = t2
  · subst ht
    have htb : (t == t) = true := by simp
    rcases TL.out.2 rfl with ⟨rfl, rfl, rfl⟩ | ⟨rfl, rfl, rfl⟩ | ⟨rfl, rfl, rfl⟩
    all_goals
      clear TL
      go_wp2_with (first
        | ((with_reducible refine ld_row rA TA ?_ ?_ ?_); (· rfl); (· rfl); (simp only [Act.put, List.setIfInBounds_toArray, List.set_cons_zero, List.set_cons_succ]))
        | ((with_reducible refine ld_row rB TB ?_ ?_ ?_); (· rfl); (· rfl); (simp only [Act.put, List.setIfInBounds_toArray, List.set_cons_zero, List.set_cons_succ]))
        | ((with_reducible refine ld_row ra TI ?_ ?_ ?_); (· rfl); (· rfl); (simp only [Act.put, List.setIfInBounds_toArray, List.set_cons_zero, List.set_cons_succ]))
        | ((with_reducible refine ld_row rb TJ ?_ ?_ ?_); (· rfl); (· rfl); (simp only [Act.put, List.setIfInBounds_toArray, List.set_cons_zero, List.set_cons_succ]))
        | ((with_reducible refine cmp_row egIdS NE.out ?_ ?_ ?_ ?_); (· rfl); (· rfl); (· rfl); (simp only [Act.put, List.setIfInBounds_toArray, List.set_cons_zero, List.set_cons_succ])))
      refine (CR.out w3).mono ?_
      rintro e w4 ⟨rfl, hb4⟩
      have HB4 := HB3.out.trans (hb4.mono (HG0.out ▸ HB3.out.size))
      go_wp2_with fail
      go_ret
      have hge := HG0.out
      subst hge
      exact ⟨rfl, HB4⟩
  · have htb : (t == t2) = false := by simpa using ht
    rcases TL.out.1 ht with ⟨rfl, rfl⟩ | ⟨rfl, rfl⟩
    all_goals
      clear TL
      go_wp2_with (first
        | ((with_reducible refine ld_row rA TA ?_ ?_ ?_); (· rfl); (· rfl); (simp only [Act.put, List.setIfInBounds_toArray, List.set_cons_zero, List.set_cons_succ]))
        | ((with_reducible refine ld_row rB TB ?_ ?_ ?_); (· rfl); (· rfl); (simp only [Act.put, List.setIfInBounds_toArray, List.set_cons_zero, List.set_cons_succ]))
        | ((with_reducible refine ld_row ra TI ?_ ?_ ?_); (· rfl); (· rfl); (simp only [Act.put, List.setIfInBounds_toArray, List.set_cons_zero, List.set_cons_succ]))
        | ((with_reducible refine ld_row rb TJ ?_ ?_ ?_); (· rfl); (· rfl); (simp only [Act.put, List.setIfInBounds_toArray, List.set_cons_zero, List.set_cons_succ]))
        | ((with_reducible refine cmp_row egIdS NE.out ?_ ?_ ?_ ?_); (· rfl); (· rfl); (· rfl); (simp only [Act.put, List.setIfInBounds_toArray, List.set_cons_zero, List.set_cons_succ])))
      refine (CR.out w3).mono ?_
      rintro e w4 ⟨rfl, hb4⟩
      have HB4 := HB3.out.trans (hb4.mono (HG0.out ▸ HB3.out.size))
      go_wp2_with fail
      go_ret
      have hge := HG0.out
      subst hge
      exact ⟨rfl, HB4⟩
theorem lies07_law (v0 v1 : Value) (w : World) (h0 : Arg Try.prog w 25 v0) (h1 : Arg Try.prog w 25 v1) : Calls Try.prog 3 #[v0, v1] w fun e w' => e = .returned (.bool true) ∧ Below w.heap.size w w' := by
  obtain ⟨p, q, t, k, a, b, n, r, s, rfl, f1, f2⟩ := h0.chg
  obtain ⟨p2, q2, t2, k2, a2, b2, n2, r2, s2, rfl, g1, g2⟩ := h1.chg
  exact lies07 p q t k a b n r s p2 q2 t2 k2 a2 b2 n2 r2 s2 w f1 f2 g1 g2
end Go.Proofs.Ytbdonjapcpfgiaa
