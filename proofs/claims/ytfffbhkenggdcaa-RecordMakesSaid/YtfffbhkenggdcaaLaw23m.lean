/- The statements of records: what they lean on; the constructors. -/
import Derived.Test.YtfffbhkenggdcaaRec17
import Derived.Test.YtfffbhkenggdcaaQt
import Derived.Test.YtfffbhkenggdcaaRow
import Derived.Test.YtfffbhkenggdcaaOps
import Derived.Test.YtfffbhkenggdcaaEq
import Derived.Test.YtfffbhkenggdcaaChgOps
import Derived.RegionTactic
import Derived.BigRegion
import Derived.ChangeAlike
namespace Go.Proofs.Ytfffbhkenggdcaa
set_option linter.unusedVariables false
set_option linter.unusedSimpArgs false
open Go.ChangeShapes Go.WideShapes Go.ChangeAt Go.RowKit
set_option maxRecDepth 100000 in
set_option maxHeartbeats 8000000 in
theorem makes_walk (r s t k a b n p q i1 i2 k1 k2 ko : Int) (ku : Bool) (now : Int) (w : World) (hf : ∀ z ∈ [r, s, t, k, a, b, n, p, q, i1, i2, k1, k2, ko, now], fits z = true) : Calls Try.prog 4 #[.agg #[.int .i64 r, .int .i64 s, .int .i64 t, .int .i64 k, .int .i64 a, .int .i64 b, .int .i64 n, .int .i64 p, .int .i64 q], .agg #[.int .i64 i1, .int .i64 i2], .agg #[.int .i64 k1, .int .i64 k2, .int .i64 ko, .bool ku], .int .i64 now] w fun e w' => e = .returned (.bool true) ∧ Below w.heap.size w w' := by
  have hz1 : (w.alloc (.cells #[.int .i64 r, .int .i64 s, .int .i64 t, .int .i64 k, .int .i64 a, .int .i64 b, .int .i64 n, .int .i64 p, .int .i64 q] 27)).heap.size = w.heap.size + 1 := by simp
  have hz2 : ((w.alloc (.cells #[.int .i64 r, .int .i64 s, .int .i64 t, .int .i64 k, .int .i64 a, .int .i64 b, .int .i64 n, .int .i64 p, .int .i64 q] 27)).alloc (.cells #[.int .i64 i1, .int .i64 i2] 25)).heap.size = w.heap.size + 2 := by simp
  have A1 : Blk (((w.alloc (.cells #[.int .i64 r, .int .i64 s, .int .i64 t, .int .i64 k, .int .i64 a, .int .i64 b, .int .i64 n, .int .i64 p, .int .i64 q] 27)).alloc (.cells #[.int .i64 i1, .int .i64 i2] 25)).alloc (.cells #[.int .i64 k1, .int .i64 k2, .int .i64 ko, .bool ku] 29)) w.heap.size [.int .i64 r, .int .i64 s, .int .i64 t, .int .i64 k, .int .i64 a, .int .i64 b, .int .i64 n, .int .i64 p, .int .i64 q] 27 := ((Blk.new w #[.int .i64 r, .int .i64 s, .int .i64 t, .int .i64 k, .int .i64 a, .int .i64 b, .int .i64 n, .int .i64 p, .int .i64 q] 27).alloc _).alloc _
  have A2 : Blk (((w.alloc (.cells #[.int .i64 r, .int .i64 s, .int .i64 t, .int .i64 k, .int .i64 a, .int .i64 b, .int .i64 n, .int .i64 p, .int .i64 q] 27)).alloc (.cells #[.int .i64 i1, .int .i64 i2] 25)).alloc (.cells #[.int .i64 k1, .int .i64 k2, .int .i64 ko, .bool ku] 29)) (w.heap.size + 1) [.int .i64 i1, .int .i64 i2] 25 := (hz1 ▸ Blk.new (w.alloc (.cells #[.int .i64 r, .int .i64 s, .int .i64 t, .int .i64 k, .int .i64 a, .int .i64 b, .int .i64 n, .int .i64 p, .int .i64 q] 27)) #[.int .i64 i1, .int .i64 i2] 25).alloc _
  have A3 : Blk (((w.alloc (.cells #[.int .i64 r, .int .i64 s, .int .i64 t, .int .i64 k, .int .i64 a, .int .i64 b, .int .i64 n, .int .i64 p, .int .i64 q] 27)).alloc (.cells #[.int .i64 i1, .int .i64 i2] 25)).alloc (.cells #[.int .i64 k1, .int .i64 k2, .int .i64 ko, .bool ku] 29)) (w.heap.size + 2) [.int .i64 k1, .int .i64 k2, .int .i64 ko, .bool ku] 29 := hz2 ▸ Blk.new ((w.alloc (.cells #[.int .i64 r, .int .i64 s, .int .i64 t, .int .i64 k, .int .i64 a, .int .i64 b, .int .i64 n, .int .i64 p, .int .i64 q] 27)).alloc (.cells #[.int .i64 i1, .int .i64 i2] 25)) #[.int .i64 k1, .int .i64 k2, .int .i64 ko, .bool ku] 29
  have HB := Lib.hid ((((Below.refl w.heap.size w).alloc (Nat.le_refl _) (.cells #[.int .i64 r, .int .i64 s, .int .i64 t, .int .i64 k, .int .i64 a, .int .i64 b, .int .i64 n, .int .i64 p, .int .i64 q] 27)).alloc (by rw [hz1]; omega) (.cells #[.int .i64 i1, .int .i64 i2] 25)).alloc (by rw [hz2]; omega) (.cells #[.int .i64 k1, .int .i64 k2, .int .i64 ko, .bool ku] 29))
  have HA1 := Lib.hid A1
  have HA2 := Lib.hid A2
  have HA3 := Lib.hid A3
  clear A1 A2 A3 hz1 hz2
  have EQC := Lib.hid (fun w => show (binOp .eql 31 (.agg (rec17 1 r s t k a b n p q 0 0 0 0 0 false 0).toArray) (.agg #[.int .i64 1, .int .i64 r, .int .i64 s, .int .i64 t, .int .i64 k, .int .i64 a, .int .i64 b, .int .i64 n, .int .i64 p, .int .i64 q, .int .i64 0, .int .i64 0, .int .i64 0, .int .i64 0, .int .i64 0, .bool false, .int .i64 0])).run Try.prog w = .ok (.bool true) w from (rc_eq (ok17 (by intro z hz; simp only [List.mem_cons, List.not_mem_nil, or_false] at hz; rcases hz with h | h | h | h | h | h | h | h | h | h | h | h | h | h | h | h <;> (rw [h]; first | (apply hf; simp; done) | decide))) (ok17 (by intro z hz; simp only [List.mem_cons, List.not_mem_nil, or_false] at hz; rcases hz with h | h | h | h | h | h | h | h | h | h | h | h | h | h | h | h <;> (rw [h]; first | (apply hf; simp; done) | decide))) w).trans (by rw [sameB_refl]))
  have EQM := Lib.hid (fun w => show (binOp .eql 31 (.agg (rec17 2 0 0 0 0 0 0 0 0 0 i1 i2 0 0 0 false 0).toArray) (.agg #[.int .i64 2, .int .i64 0, .int .i64 0, .int .i64 0, .int .i64 0, .int .i64 0, .int .i64 0, .int .i64 0, .int .i64 0, .int .i64 0, .int .i64 i1, .int .i64 i2, .int .i64 0, .int .i64 0, .int .i64 0, .bool false, .int .i64 0])).run Try.prog w = .ok (.bool true) w from (rc_eq (ok17 (by intro z hz; simp only [List.mem_cons, List.not_mem_nil, or_false] at hz; rcases hz with h | h | h | h | h | h | h | h | h | h | h | h | h | h | h | h <;> (rw [h]; first | (apply hf; simp; done) | decide))) (ok17 (by intro z hz; simp only [List.mem_cons, List.not_mem_nil, or_false] at hz; rcases hz with h | h | h | h | h | h | h | h | h | h | h | h | h | h | h | h <;> (rw [h]; first | (apply hf; simp; done) | decide))) w).trans (by rw [sameB_refl]))
  have EQT := Lib.hid (fun w => show (binOp .eql 31 (.agg (rec17 3 0 0 0 0 0 0 0 0 0 0 0 k1 k2 ko ku now).toArray) (.agg #[.int .i64 3, .int .i64 0, .int .i64 0, .int .i64 0, .int .i64 0, .int .i64 0, .int .i64 0, .int .i64 0, .int .i64 0, .int .i64 0, .int .i64 0, .int .i64 0, .int .i64 k1, .int .i64 k2, .int .i64 ko, .bool ku, .int .i64 now])).run Try.prog w = .ok (.bool true) w from (rc_eq (ok17 (by intro z hz; simp only [List.mem_cons, List.not_mem_nil, or_false] at hz; rcases hz with h | h | h | h | h | h | h | h | h | h | h | h | h | h | h | h <;> (rw [h]; first | (apply hf; simp; done) | decide))) (ok17 (by intro z hz; simp only [List.mem_cons, List.not_mem_nil, or_false] at hz; rcases hz with h | h | h | h | h | h | h | h | h | h | h | h | h | h | h | h <;> (rw [h]; first | (apply hf; simp; done) | decide))) w).trans (by rw [sameB_refl]))
  have EQA := Lib.hid (fun w => show (binOp .eql 31 (.agg (rec17 4 0 0 0 0 0 0 0 0 0 0 0 k1 k2 ko ku 0).toArray) (.agg #[.int .i64 4, .int .i64 0, .int .i64 0, .int .i64 0, .int .i64 0, .int .i64 0, .int .i64 0, .int .i64 0, .int .i64 0, .int .i64 0, .int .i64 0, .int .i64 0, .int .i64 k1, .int .i64 k2, .int .i64 ko, .bool ku, .int .i64 0])).run Try.prog w = .ok (.bool true) w from (rc_eq (ok17 (by intro z hz; simp only [List.mem_cons, List.not_mem_nil, or_false] at hz; rcases hz with h | h | h | h | h | h | h | h | h | h | h | h | h | h | h | h <;> (rw [h]; first | (apply hf; simp; done) | decide))) (ok17 (by intro z hz; simp only [List.mem_cons, List.not_mem_nil, or_false] at hz; rcases hz with h | h | h | h | h | h | h | h | h | h | h | h | h | h | h | h <;> (rw [h]; first | (apply hf; simp; done) | decide))) w).trans (by rw [sameB_refl]))
  have MC := Lib.hid fun w => mkC_any r s t k a b n p q w
  have MM := Lib.hid fun w => mkM_any i1 i2 w
  have MT := Lib.hid fun w => mkT_any k1 k2 ko ku now w
  have MA := Lib.hid fun w => mkA_any k1 k2 ko ku w
  clear hf
  go_enter Try.func4, Try.ntmps4
  go_upto_region 1 with fail
  generalize (((w.alloc (.cells #[.int .i64 r, .int .i64 s, .int .i64 t, .int .i64 k, .int .i64 a, .int .i64 b, .int .i64 n, .int .i64 p, .int .i64 q] 27)).alloc (.cells #[.int .i64 i1, .int .i64 i2] 25)).alloc (.cells #[.int .i64 k1, .int .i64 k2, .int .i64 ko, .bool ku] 29)) = W at *
  go_wp2_with fail
  refine (alive23 _).mono ?_
  rintro e w2 ⟨rfl, hb⟩
  have HB2 := Lib.hid (HB.out.trans (hb.mono HB.out.size))
  have B1 := HA1.out.keep hb HA1.out.lt
  have B2 := HA2.out.keep hb HA2.out.lt
  have B3 := HA3.out.keep hb HA3.out.lt
  have HA1 := Lib.hid B1
  have HA2 := Lib.hid B2
  have HA3 := Lib.hid B3
  clear hb HB B1 B2 B3
  have l1 := HA1.out.lt
  have l2 := HA2.out.lt
  have l3 := HA3.out.lt
  have I9 : Hid ((Try.prog.info? 27).map (·.size) = some ([.int .i64 r, .int .i64 s, .int .i64 t, .int .i64 k, .int .i64 a, .int .i64 b, .int .i64 n, .int .i64 p, .int .i64 q] : List Value).length) := Lib.hid cg_size
  have I2 : Hid ((Try.prog.info? 25).map (·.size) = some ([.int .i64 i1, .int .i64 i2] : List Value).length) := Lib.hid id_size
  have I4 : Hid ((Try.prog.info? 29).map (·.size) = some ([.int .i64 k1, .int .i64 k2, .int .i64 ko, .bool ku] : List Value).length) := Lib.hid ky_size
  go_upto_region 3 with fail
  refine q_begin (by kernel_rfl) (by kernel_rfl) ?_
  repeat (first
    | go_big_quiet_skip
    | ((with_reducible apply q_row); (· rfl); (· rfl); (· exact Try.underlying27); (· rfl); (· exact HA1.out); (· exact l1); (· exact I9.out); (simp only [Act.put, List.setIfInBounds_toArray, List.set_cons_zero, List.set_cons_succ]))
    | ((with_reducible apply q_row); (· rfl); (· rfl); (· exact Try.underlying25); (· rfl); (· exact HA2.out); (· exact l2); (· exact I2.out); (simp only [Act.put, List.setIfInBounds_toArray, List.set_cons_zero, List.set_cons_succ]))
    | ((with_reducible apply q_row); (· rfl); (· rfl); (· exact Try.underlying29); (· rfl); (· exact HA3.out); (· exact l3); (· exact I4.out); (simp only [Act.put, List.setIfInBounds_toArray, List.set_cons_zero, List.set_cons_succ]))
    | ((with_reducible apply q_call 10 (.agg (rec17 1 r s t k a b n p q 0 0 0 0 0 false 0).toArray)); (· rfl); (· exact Nat.le_refl _); (· intro w _; exact MC.out w); (· intro w; go_simp); (simp only [Act.put, List.setIfInBounds_toArray, List.set_cons_zero, List.set_cons_succ]))
    | ((with_reducible apply q_call 11 (.agg (rec17 2 0 0 0 0 0 0 0 0 0 i1 i2 0 0 0 false 0).toArray)); (· rfl); (· exact Nat.le_refl _); (· intro w _; exact MM.out w); (· intro w; go_simp); (simp only [Act.put, List.setIfInBounds_toArray, List.set_cons_zero, List.set_cons_succ]))
    | ((with_reducible apply q_call 12 (.agg (rec17 3 0 0 0 0 0 0 0 0 0 0 0 k1 k2 ko ku now).toArray)); (· rfl); (· exact Nat.le_refl _); (· intro w _; exact MT.out w); (· intro w; go_simp); (simp only [Act.put, List.setIfInBounds_toArray, List.set_cons_zero, List.set_cons_succ]))
    | ((with_reducible apply q_call 13 (.agg (rec17 4 0 0 0 0 0 0 0 0 0 0 0 k1 k2 ko ku 0).toArray)); (· rfl); (· exact Nat.le_refl _); (· intro w _; exact MA.out w); (· intro w; go_simp); (simp only [Act.put, List.setIfInBounds_toArray, List.set_cons_zero, List.set_cons_succ]))
    | ((with_reducible apply q_cmp (v := .bool true)); (· rfl); (· rfl); (· rfl); (· kernel_rfl); (· intro w; first | with_reducible exact EQC.out w | with_reducible exact EQM.out w | with_reducible exact EQT.out w | with_reducible exact EQA.out w); (simp only [Act.put, List.setIfInBounds_toArray, List.set_cons_zero, List.set_cons_succ]))
    | (go_big_quiet_want; go_big_quiet_op; (first | go_big_quiet_on | (apply Exists.intro; refine ⟨fun _ _ => rfl, ?_⟩; go_big_quiet_on))))
  refine q_end ?_
  intro w6 hb
  have HB6 := HB2.out.trans (hb.mono HB2.out.size)
  go_wp2_with fail
  go_ret
  exact ⟨rfl, HB6⟩
theorem makes_law (v0 v1 v2 v3 : Value) (w : World) (h0 : Arg Try.prog w 27 v0) (h1 : Arg Try.prog w 25 v1) (h2 : Arg Try.prog w 29 v2) (h3 : Arg Try.prog w 3 v3) : Calls Try.prog 4 #[v0, v1, v2, v3] w fun e w' => e = .returned (.bool true) ∧ Below w.heap.size w w' := by
  obtain ⟨cs, rfl, g0⟩ := h0.flat_struct Try.underlying27 flat9
  obtain ⟨l, e3, e4, e5⟩ := ints_of_ok 9 _ g0
  obtain ⟨ds, rfl, g1⟩ := h1.flat_struct Try.underlying25 (show flat Try.prog 2 25 = some (List.replicate 2 (some .i64)) by kernel_rfl)
  obtain ⟨m, f3, f4, f5⟩ := ints_of_ok 2 _ g1
  obtain ⟨ks, rfl, g2⟩ := h2.flat_struct Try.underlying29 (show flat Try.prog 3 29 = some [some .i64, some .i64, some .i64, none] by kernel_rfl)
  obtain ⟨now, rfl, e6⟩ := h3.int Try.underlying3
  have hl := g2.len
  match l, e3, e4, m, f3, f4 with
  | [r, s, t, k, a, b, n, p, q], _, e4, [i1, i2], _, f4 =>
    match hks : ks.toList, hl, g2 with
    | [u0, u1, u2, u3], _, g2 =>
      obtain ⟨⟨k1, rfl, h1⟩, ⟨k2, rfl, h2⟩, ⟨ko, rfl, h3⟩, ⟨ku, rfl⟩, _⟩ := g2
      rw [show cs = cs.toList.toArray by simp, e4, show ds = ds.toList.toArray by simp, f4, show ks = ks.toList.toArray by simp, hks]
      refine makes_walk r s t k a b n p q i1 i2 k1 k2 ko ku now w ?_
      intro z hz
      simp only [List.mem_cons, List.not_mem_nil, or_false] at hz
      rcases hz with h | h | h | h | h | h | h | h | h | h | h | h | h | h | h <;> rw [h]
      iterate 9 exact fits_wf (e5 _ (by simp))
      iterate 2 exact fits_wf (f5 _ (by simp))
      · exact fits_wf h1
      · exact fits_wf h2
      · exact fits_wf h3
      · exact fits_wf e6
end Go.Proofs.Ytfffbhkenggdcaa
