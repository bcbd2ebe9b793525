/- The statements of names: which may be, which is less. -/
import Derived.Test.YtbdonjapcpfgiaaDoorAlv6
import Derived.Test.YtbdonjapcpfgiaaDoorIdn3
import Derived.Test.YtbdonjapcpfgiaaDoorRd
import Derived.Test.YtbdonjapcpfgiaaDoorRows
import Derived.Deep.DeepCutAuto
import Derived.Maps.AppendAt
import Derived.Test.YtbdonjapcpfgiaaDoorRow
import Derived.Test.YtbdonjapcpfgiaaDoorOps
import Derived.RegionTactic
import Derived.BigRegion
import Derived.ChangeAlike
namespace Go.Proofs.YtbdonjapcpfgiaaDoor
set_option linter.unusedVariables false
set_option linter.unusedSimpArgs false
open Go.ChangeShapes Go.WideShapes Go.ChangeAt Go.RowKit
theorem flatK : flat Tryd.prog 5 25 = some [some .i64, some .i64, some .i64, none] := by kernel_rfl
theorem okK {p q o : Int} (u : Bool) (hp : fits p = true) (hq : fits q = true) (ho : fits o = true) : OkAll [some .i64, some .i64, some .i64, none] [.int .i64 p, .int .i64 q, .int .i64 o, .bool u] := ⟨⟨p, rfl, wf_fitsI hp⟩, ⟨q, rfl, wf_fitsI hq⟩, ⟨o, rfl, wf_fitsI ho⟩, ⟨u, rfl⟩, trivial⟩
theorem key_eql {p q o p2 q2 o2 : Int} (u u2 : Bool) (hp : fits p = true) (hq : fits q = true) (ho : fits o = true) (hp2 : fits p2 = true) (hq2 : fits q2 = true) (ho2 : fits o2 = true) (w : World) : (binOp .eql 25 (.agg #[.int .i64 p, .int .i64 q, .int .i64 o, .bool u]) (.agg #[.int .i64 p2, .int .i64 q2, .int .i64 o2, .bool u2])).run Tryd.prog w = .ok (.bool (sameB [.int .i64 p, .int .i64 q, .int .i64 o, .bool u] [.int .i64 p2, .int .i64 q2, .int .i64 o2, .bool u2])) w := by
  have := eql_flat 5 5 25 _ _ _ w flatK (by kernel_rfl) (by kernel_rfl) (by kernel_rfl) (by decide) (okK u hp hq ho) (okK u2 hp2 hq2 ho2)
  exact this
theorem key_of {vs : List Value} (h : OkAll [some .i64, some .i64, some .i64, none] vs) : ∃ p q o u, vs = [.int .i64 p, .int .i64 q, .int .i64 o, .bool u] ∧ fits p = true ∧ fits q = true ∧ fits o = true := by
  have hl := h.len
  match vs, hl, h with
  | [a, b, c, d], _, h =>
    obtain ⟨⟨p, rfl, f1⟩, ⟨q, rfl, f2⟩, ⟨o, rfl, f3⟩, ⟨u, rfl⟩, _⟩ := h
    exact ⟨p, q, o, u, rfl, fits_wf f1, fits_wf f2, fits_wf f3⟩
theorem Arg.key {w : World} {v : Value} (h : Arg Tryd.prog w 25 v) : ∃ p q o u, v = .agg #[.int .i64 p, .int .i64 q, .int .i64 o, .bool u] ∧ fits p = true ∧ fits q = true ∧ fits o = true := by
  obtain ⟨cs, rfl, h2⟩ := h.flat_struct Tryd.underlying25 flatK
  obtain ⟨p, q, o, u, hcs, h⟩ := key_of h2
  have e : cs = cs.toList.toArray := (Array.toArray_toList).symm
  rw [hcs] at e
  exact ⟨p, q, o, u, congrArg Value.agg e, h⟩
set_option maxRecDepth 100000 in
set_option maxHeartbeats 8000000 in
theorem lies06 (p q o : Int) (u : Bool) (p2 q2 o2 : Int) (u2 : Bool) (w : World) (hT : PTab w) (hp : fits p = true) (hq : fits q = true) (ho : fits o = true) (hp2 : fits p2 = true) (hq2 : fits q2 = true) :
    Calls Tryd.prog 3 #[.agg #[.int .i64 p, .int .i64 q, .int .i64 o, .bool u], .agg #[.int .i64 p2, .int .i64 q2, .int .i64 o2, .bool u2]] w fun e w' => e = .returned (.bool true) ∧ Below w.heap.size w w' := by
  have HB := Lib.hid (((Below.refl w.heap.size w).alloc (Nat.le_refl _) (.cells #[.int .i64 p, .int .i64 q, .int .i64 o, .bool u] 25)).alloc (by simp) (.cells #[.int .i64 p2, .int .i64 q2, .int .i64 o2, .bool u2] 25))
  have A : Hid (Blk ((w.alloc (.cells #[.int .i64 p, .int .i64 q, .int .i64 o, .bool u] 25)).alloc (.cells #[.int .i64 p2, .int .i64 q2, .int .i64 o2, .bool u2] 25)) w.heap.size [.int .i64 p, .int .i64 q, .int .i64 o, .bool u] 25) := Lib.hid (by have := (Blk.new w #[.int .i64 p, .int .i64 q, .int .i64 o, .bool u] 25).alloc (.cells #[.int .i64 p2, .int .i64 q2, .int .i64 o2, .bool u2] 25); simpa using this)
  have B : Hid (Blk ((w.alloc (.cells #[.int .i64 p, .int .i64 q, .int .i64 o, .bool u] 25)).alloc (.cells #[.int .i64 p2, .int .i64 q2, .int .i64 o2, .bool u2] 25)) (w.heap.size + 1) [.int .i64 p2, .int .i64 q2, .int .i64 o2, .bool u2] 25) := Lib.hid (by have := Blk.new (w.alloc (.cells #[.int .i64 p, .int .i64 q, .int .i64 o, .bool u] 25)) #[.int .i64 p2, .int .i64 q2, .int .i64 o2, .bool u2] 25; simpa using this)
  have HAL := Lib.hid (fun w' (hb : Below w.heap.size w w') => alive06 w' (hT.keep hb))
  have C1 : Hid (∀ w, Calls Tryd.prog 7 #[.agg ([.int .i64 p, .int .i64 q] : List Value).toArray] w fun e w' => e = .returned (.bool (mayId p q)) ∧ Below w.heap.size w w') := Lib.hid (fun w => may_any p q w)
  have C2 : Hid (∀ w, Calls Tryd.prog 8 #[.agg ([.int .i64 p, .int .i64 q] : List Value).toArray] w fun e w' => e = .returned (.bool (mayId p q)) ∧ Below w.heap.size w w') := Lib.hid (fun w => rmay_any p q w)
  have C3 : Hid (∀ w, Calls Tryd.prog 9 #[.agg ([.int .i64 p, .int .i64 q, .int .i64 o, .bool u] : List Value).toArray] w fun e w' => e = .returned (.bool (mayKey p q o)) ∧ Below w.heap.size w w') := Lib.hid (fun w => maykey_any p q o u w)
  have C4 : Hid (∀ w, Calls Tryd.prog 10 #[.agg ([.int .i64 p, .int .i64 q, .int .i64 o, .bool u] : List Value).toArray] w fun e w' => e = .returned (.bool (mayKey p q o)) ∧ Below w.heap.size w w') := Lib.hid (fun w => rmaykey_any p q o u w)
  have C5 : Hid (∀ w, Calls Tryd.prog 11 #[.agg ([.int .i64 p, .int .i64 q] : List Value).toArray, .agg ([.int .i64 p2, .int .i64 q2] : List Value).toArray] w fun e w' => e = .returned (.bool (idLess p q p2 q2)) ∧ Below w.heap.size w w') := Lib.hid (fun w => less_any p q p2 q2 w)
  have C6 : Hid (∀ w, Calls Tryd.prog 12 #[.agg ([.int .i64 p, .int .i64 q] : List Value).toArray, .agg ([.int .i64 p2, .int .i64 q2] : List Value).toArray] w fun e w' => e = .returned (.bool (idLess p q p2 q2)) ∧ Below w.heap.size w w') := Lib.hid (fun w => rless_any p q p2 q2 w)
  have C7 : Hid (∀ w, Calls Tryd.prog 13 #[.agg ([.int .i64 p, .int .i64 q, .int .i64 o, .bool u] : List Value).toArray, .agg ([.int .i64 p2, .int .i64 q2, .int .i64 o2, .bool u2] : List Value).toArray] w fun e w' => e = .returned (.bool (lessK p q o u p2 q2 o2 u2)) ∧ Below w.heap.size w w') := Lib.hid (fun w => lesskey_any p q o u p2 q2 o2 u2 w)
  have C8 : Hid (∀ w, Calls Tryd.prog 14 #[.agg ([.int .i64 p, .int .i64 q, .int .i64 o, .bool u] : List Value).toArray, .agg ([.int .i64 p2, .int .i64 q2, .int .i64 o2, .bool u2] : List Value).toArray] w fun e w' => e = .returned (.bool (lessK p q o u p2 q2 o2 u2)) ∧ Below w.heap.size w w') := Lib.hid (fun w => rlesskey_any p q o u p2 q2 o2 u2 w hp hq hp2 hq2)
  have C9 : Hid (∀ w, Calls Tryd.prog 15 #[.agg ([.int .i64 p, .int .i64 q, .int .i64 o, .bool u] : List Value).toArray] w fun e w' => e = .returned (.agg #[.int .i64 p, .int .i64 q, .int .i64 o, .bool (!u)]) ∧ Below w.heap.size w w') := Lib.hid (fun w => other_any p q o u w)
  have C10 : Hid (∀ w, Calls Tryd.prog 16 #[.agg ([.int .i64 p, .int .i64 q, .int .i64 o, .bool u] : List Value).toArray] w fun e w' => e = .returned (.agg #[.int .i64 p, .int .i64 q, .int .i64 o, .bool (!u)]) ∧ Below w.heap.size w w') := Lib.hid (fun w => rother_any p q o u w)
  have EQK := Lib.hid (fun w => show (binOp .eql 25 (.agg #[.int .i64 p, .int .i64 q, .int .i64 o, .bool (!u)]) (.agg #[.int .i64 p, .int .i64 q, .int .i64 o, .bool (!u)])).run Tryd.prog w = .ok (.bool true) w from by rw [key_eql (!u) (!u) hp hq ho hp hq ho, sameB_refl])
  clear hT hp hq ho hp2 hq2
  generalize mayId p q = v1 at *
  generalize mayKey p q o = v2 at *
  generalize idLess p q p2 q2 = v3 at *
  generalize lessK p q o u p2 q2 o2 u2 = v4 at *
  go_enter Tryd.func3, Tryd.ntmps3
  go_upto_region 1 with fail
  generalize hg0 : w.heap.size = g0 at *
  have HG0 := Lib.hid hg0
  generalize ((w.alloc (.cells #[.int .i64 p, .int .i64 q, .int .i64 o, .bool u] 25)).alloc (.cells #[.int .i64 p2, .int .i64 q2, .int .i64 o2, .bool u2] 25)) = w1 at *
  clear hg0
  have AL1 := Lib.hid (HAL.out w1 HB.out)
  go_wp2_with fail
  refine AL1.out.mono ?_
  rintro e w2 ⟨rfl, hb⟩
  have HB2 := Lib.hid (HB.out.trans (hb.mono (HG0.out ▸ HB.out.size)))
  have A2 := Lib.hid (A.out.keep hb A.out.lt)
  have B2 := Lib.hid (B.out.keep hb B.out.lt)
  have l1 := Lib.hid A2.out.lt
  have l2 := Lib.hid B2.out.lt
  clear hb HB A B AL1 HAL
  go_upto_region 3 with fail
  refine q_begin (by kernel_rfl) (by kernel_rfl) ?_
  repeat (first
    | go_big_quiet_skip
    | ((with_reducible apply q_part (xs := [.int .i64 p, .int .i64 q])); (· rfl); (· rfl); (· exact Tryd.underlying23); (· rfl); (· exact A2.out); (· exact l1.out); (· rfl); (· exact id_size); (simp only [Act.put, List.setIfInBounds_toArray, List.set_cons_zero, List.set_cons_succ]))
    | ((with_reducible apply q_part (xs := [.int .i64 p2, .int .i64 q2])); (· rfl); (· rfl); (· exact Tryd.underlying23); (· rfl); (· exact B2.out); (· exact l2.out); (· rfl); (· exact id_size); (simp only [Act.put, List.setIfInBounds_toArray, List.set_cons_zero, List.set_cons_succ]))
    | ((with_reducible apply q_row); (· rfl); (· rfl); (· exact Tryd.underlying25); (· rfl); (· exact A2.out); (· exact l1.out); (· exact key_size); (simp only [Act.put, List.setIfInBounds_toArray, List.set_cons_zero, List.set_cons_succ]))
    | ((with_reducible apply q_row); (· rfl); (· rfl); (· exact Tryd.underlying25); (· rfl); (· exact B2.out); (· exact l2.out); (· exact key_size); (simp only [Act.put, List.setIfInBounds_toArray, List.set_cons_zero, List.set_cons_succ]))
    | ((with_reducible apply q_call 7 (.bool v1)); (· rfl); (· exact Nat.le_refl _); (· intro w _; exact C1.out w); (· intro w; go_simp); (simp only [Act.put, List.setIfInBounds_toArray, List.set_cons_zero, List.set_cons_succ]))
    | ((with_reducible apply q_call 8 (.bool v1)); (· rfl); (· exact Nat.le_refl _); (· intro w _; exact C2.out w); (· intro w; go_simp); (simp only [Act.put, List.setIfInBounds_toArray, List.set_cons_zero, List.set_cons_succ]))
    | ((with_reducible apply q_call 9 (.bool v2)); (· rfl); (· exact Nat.le_refl _); (· intro w _; exact C3.out w); (· intro w; go_simp); (simp only [Act.put, List.setIfInBounds_toArray, List.set_cons_zero, List.set_cons_succ]))
    | ((with_reducible apply q_call 10 (.bool v2)); (· rfl); (· exact Nat.le_refl _); (· intro w _; exact C4.out w); (· intro w; go_simp); (simp only [Act.put, List.setIfInBounds_toArray, List.set_cons_zero, List.set_cons_succ]))
    | ((with_reducible apply q_call 11 (.bool v3)); (· rfl); (· exact Nat.le_refl _); (· intro w _; exact C5.out w); (· intro w; go_simp); (simp only [Act.put, List.setIfInBounds_toArray, List.set_cons_zero, List.set_cons_succ]))
    | ((with_reducible apply q_call 12 (.bool v3)); (· rfl); (· exact Nat.le_refl _); (· intro w _; exact C6.out w); (· intro w; go_simp); (simp only [Act.put, List.setIfInBounds_toArray, List.set_cons_zero, List.set_cons_succ]))
    | ((with_reducible apply q_call 13 (.bool v4)); (· rfl); (· exact Nat.le_refl _); (· intro w _; exact C7.out w); (· intro w; go_simp); (simp only [Act.put, List.setIfInBounds_toArray, List.set_cons_zero, List.set_cons_succ]))
    | ((with_reducible apply q_call 14 (.bool v4)); (· rfl); (· exact Nat.le_refl _); (· intro w _; exact C8.out w); (· intro w; go_simp); (simp only [Act.put, List.setIfInBounds_toArray, List.set_cons_zero, List.set_cons_succ]))
    | ((with_reducible apply q_call 15 (.agg #[.int .i64 p, .int .i64 q, .int .i64 o, .bool (!u)])); (· rfl); (· exact Nat.le_refl _); (· intro w _; exact C9.out w); (· intro w; go_simp); (simp only [Act.put, List.setIfInBounds_toArray, List.set_cons_zero, List.set_cons_succ]))
    | ((with_reducible apply q_call 16 (.agg #[.int .i64 p, .int .i64 q, .int .i64 o, .bool (!u)])); (· rfl); (· exact Nat.le_refl _); (· intro w _; exact C10.out w); (· intro w; go_simp); (simp only [Act.put, List.setIfInBounds_toArray, List.set_cons_zero, List.set_cons_succ]))
    | ((with_reducible apply q_cmp); (· rfl); (· rfl); (· rfl); (· kernel_rfl); (· intro w; exact EQK.out w); (simp only [Act.put, List.setIfInBounds_toArray, List.set_cons_zero, List.set_cons_succ]))
    | (go_big_quiet_want; go_big_quiet_op; (first | go_big_quiet_on | (apply Exists.intro; refine ⟨fun _ _ => rfl, ?_⟩; go_big_quiet_on))))
  refine q_end ?_
  intro w3 hb
  have HB3 := HB2.out.trans (hb.mono (HG0.out ▸ HB2.out.size))
  go_wp2_with fail
  go_ret
  have hge := HG0.out
  subst hge
  exact ⟨rfl, HB3⟩
theorem lies06_law (v0 v1 : Value) (w : World) (hL : laidMet Tryd.prog Rows.identLiesRow.laid w) (h0 : Arg Tryd.prog w 25 v0) (h1 : Arg Tryd.prog w 25 v1) : Calls Tryd.prog 3 #[v0, v1] w fun e w' => e = .returned (.bool true) ∧ Below w.heap.size w w' := by
  have hT : PTab w := ptab6 hL (l := Rows.identLiesRow.laid) (List.Mem.tail _ (List.Mem.tail _ (List.Mem.head _)))
  obtain ⟨p, q, o, u, rfl, f1, f2, f3⟩ := h0.key
  obtain ⟨p2, q2, o2, u2, rfl, g1, g2, g3⟩ := h1.key
  exact lies06 p q o u p2 q2 o2 u2 w hT f1 f2 f3 g1 g2
end Go.Proofs.YtbdonjapcpfgiaaDoor
