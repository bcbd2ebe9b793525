/- The texts of names and keys, there and back. -/
import Derived.Test.YtbdonjapcpfgiaaDoorLaw06
import Derived.Test.YtbdonjapcpfgiaaDoorRpar6
import Derived.Test.YtbdonjapcpfgiaaDoorRt6
import Derived.Stop.LaidErr
import Derived.ChangeMaps5
import Derived.Deep.DeepCutAuto
import Derived.Maps.AppendAt
import Derived.Test.YtbdonjapcpfgiaaDoorRow
import Derived.Test.YtbdonjapcpfgiaaDoorOps
import Derived.RegionTactic
import Derived.BigRegion
import Derived.ChangeAlike
namespace Go.Proofs.YtbdonjapcpfgiaaDoor
set_option linter.unusedVariables false
set_option linter.unusedSimpArgs false
open Go.ChangeShapes Go.WideShapes Go.ChangeAt Go.RowKit
theorem Arg.str {w : World} {t : TypeId} {v : Value} (h : Arg Tryd.prog w t v) (hu : Tryd.prog.underlying t = some .string) : ∃ s, v = .string s ∧ s.size ≤ 140737488355328 := by
  obtain ⟨H, enc, base, d, p, ho, hf, hw⟩ := h
  obtain ⟨s, rfl, rfl, _, _⟩ := Go.ChangeMaps.open_string hu ho hf
  refine ⟨s, rfl, ?_⟩
  have := List.all_eq_true.1 hw s.data.toList.length (by simp [DataW.weights])
  rw [decide_eq_true_eq, Array.length_toList] at this
  exact Nat.le_trans this (by decide)
theorem star6 : "*" ++ "errors.errorString" = "*errors.errorString" := by decide
theorem row6 (u : TypeId) (h : Tryd.prog.typeName? 3 u = some "*errors.errorString") : u = 84 :=
  typeName_ptr_named (nm := "errors.errorString") (by rw [star6]; kernel_rfl) (by kernel_rfl) (by decide) u (by rw [star6]; exact h)
theorem etab6 {w : World} (hL : laidMet Tryd.prog Rows.identTextsRow.laid w) : ETab w := by
  have h1 : laidMet Tryd.prog (("strconv.ErrRange", Rows.laid_strconv_ErrRange) :: ("strconv.ErrSyntax", Rows.laid_strconv_ErrSyntax) :: []) w := (((show laidMet Tryd.prog (_ :: _ :: _ :: _) w from hL).tail).tail).tail
  obtain ⟨a0, s0, hv0, _, _, _⟩ := laid_sentinel (g := 2) h1 (by kernel_rfl) (by kernel_rfl) Tryd.underlying44 row6 Tryd.underlying84 Tryd.underlying86 rfl rfl Tryd.underlying9 (by kernel_rfl) (by kernel_rfl)
  obtain ⟨a1, s1, hv1, _, _, _⟩ := laid_sentinel (g := 1) h1.tail (by kernel_rfl) (by kernel_rfl) Tryd.underlying44 row6 Tryd.underlying84 Tryd.underlying86 rfl rfl Tryd.underlying9 (by kernel_rfl) (by kernel_rfl)
  exact ⟨⟨_, _, hv1⟩, _, _, hv0⟩
theorem pq_fits {s : ByteArray} {p q : Int} {ok : Bool} (h : PQ s p q ok) : fits p = true ∧ fits q = true := by
  cases ok with
  | false => obtain ⟨rfl, rfl, _⟩ := h.2 rfl; exact ⟨rfl, rfl⟩
  | true => obtain ⟨a, b, c, d⟩ := may_small (h.1 rfl).1; exact ⟨(fits_iff _).2 ⟨by omega, by omega⟩, (fits_iff _).2 ⟨by omega, by omega⟩⟩
theorem pq_same {s : ByteArray} {p q p2 q2 : Int} {ok ok2 : Bool} (h : PQ s p q ok) (h2 : PQ s p2 q2 ok2) : p2 = p ∧ q2 = q ∧ ok2 = ok := by
  cases ok with
  | false =>
    obtain ⟨rfl, rfl, hn⟩ := h.2 rfl
    cases ok2 with
    | false => obtain ⟨rfl, rfl, _⟩ := h2.2 rfl; exact ⟨rfl, rfl, rfl⟩
    | true => obtain ⟨a, b⟩ := h2.1 rfl; exact absurd b.symm (hn _ _ a)
  | true =>
    obtain ⟨a, b⟩ := h.1 rfl
    cases ok2 with
    | false => exact absurd b.symm ((h2.2 rfl).2.2 _ _ a)
    | true =>
      obtain ⟨c, d⟩ := h2.1 rfl
      obtain ⟨e1, e2⟩ := idB_inj (b.symm.trans d)
      exact ⟨e1.symm, e2.symm, rfl⟩
theorem pq_back {a b p q : Int} {ok : Bool} (h : PQ (idB a b) p q ok) : ok = mayId a b ∧ (ok = true → p = a ∧ q = b) := by
  cases ok with
  | false =>
    refine ⟨?_, (fun h => by cases h)⟩
    cases hm : mayId a b with
    | false => rfl
    | true => exact absurd rfl ((h.2 rfl).2.2 a b hm)
  | true =>
    obtain ⟨c, d⟩ := h.1 rfl
    obtain ⟨e1, e2⟩ := idB_inj d
    subst e1
    subst e2
    exact ⟨c.symm, fun _ => ⟨rfl, rfl⟩⟩
theorem iparse_any (s : ByteArray) (hs : s.size ≤ 281474976710656) (w : World) (hT : PTab w) (hE : ETab w) : Calls Tryd.prog 17 #[.string s] w fun e w' => PQE s e ∧ Below w.heap.size w w' := by
  by_cases h : ∃ p q, mayId p q = true ∧ idB p q = s
  · obtain ⟨p, q, hm, rfl⟩ := h
    refine (parse_good p q hm w hT).mono ?_
    rintro e w' ⟨rfl, hb⟩
    exact ⟨⟨_, _, _, rfl, ⟨fun _ => ⟨hm, rfl⟩, (fun h => by cases h)⟩⟩, hb⟩
  · have hno : ∀ p q, mayId p q = true → idB p q ≠ s := fun p q a b => h ⟨p, q, a, b⟩
    refine (parse_bad s hs hno w hT hE).mono ?_
    rintro e w' ⟨rfl, hb⟩
    exact ⟨⟨_, _, _, rfl, ⟨(fun h => by cases h), fun _ => ⟨rfl, rfl, hno⟩⟩⟩, hb⟩
set_option maxRecDepth 100000 in
set_option maxHeartbeats 8000000 in
theorem texts06 (a b o : Int) (u : Bool) (s : ByteArray) (hs : s.size ≤ 140737488355328) (w : World) (hT : PTab w) (hE : ETab w) (ha : fits a = true) (hb : fits b = true) (ho : fits o = true) :
    Calls Tryd.prog 5 #[.agg #[.int .i64 a, .int .i64 b, .int .i64 o, .bool u], .string s] w fun e w' => e = .returned (.bool true) ∧ Below w.heap.size w w' := by
  have HB := Lib.hid ((Below.refl w.heap.size w).alloc (Nat.le_refl _) (.cells #[.int .i64 a, .int .i64 b, .int .i64 o, .bool u] 25))
  have A := Lib.hid (Blk.new w #[.int .i64 a, .int .i64 b, .int .i64 o, .bool u] 25)
  have HAL := Lib.hid (fun w' (hb : Below w.heap.size w w') => alive06 w' (hT.keep hb))
  have CP := Lib.hid (fun w' (hb : Below w.heap.size w w') => iparse_any s (by omega) w' (hT.keep hb) (hE.keep hb))
  have CR := Lib.hid (fun w' => rparse_any s hs w')
  have C1 : Hid (∀ w', Below w.heap.size w w' → Calls Tryd.prog 19 #[.agg (ints [a, b]).toArray] w' fun e w2 => e = .returned (.string (idB a b)) ∧ Below w'.heap.size w' w2) := Lib.hid (fun w' hb => idtext_any a b w' ha ‹fits b = true› (hT.keep hb))
  have CQ := Lib.hid (fun w' (hw : Below w.heap.size w w') => iparse_any (idB a b) (by have := idB_small a b ha hb; omega) w' (hT.keep hw) (hE.keep hw))
  have CM : Hid (∀ w', Calls Tryd.prog 8 #[.agg (ints [a, b]).toArray] w' fun e w2 => e = .returned (.bool (mayId a b)) ∧ Below w'.heap.size w' w2) := Lib.hid (fun w' => rmay_any a b w')
  have C2 : Hid (∀ w', Below w.heap.size w w' → Calls Tryd.prog 20 #[.agg (ints [a, b]).toArray] w' fun e w2 => e = .returned (.string (idB a b)) ∧ Below w'.heap.size w' w2) := Lib.hid (fun w' _ => ridtext_any a b w' ha hb)
  have C3 : Hid (∀ w', Below w.heap.size w w' → Calls Tryd.prog 21 #[.agg ([.int .i64 a, .int .i64 b, .int .i64 o, .bool u] : List Value).toArray] w' fun e w2 => e = .returned (.string (keyB a b o u)) ∧ Below w'.heap.size w' w2) := Lib.hid (fun w' hw => keytext_any a b o u w' ha hb ho (hT.keep hw))
  have C4 : Hid (∀ w', Below w.heap.size w w' → Calls Tryd.prog 22 #[.agg ([.int .i64 a, .int .i64 b, .int .i64 o, .bool u] : List Value).toArray] w' fun e w2 => e = .returned (.string (keyB a b o u)) ∧ Below w'.heap.size w' w2) := Lib.hid (fun w' _ => rkeytext_any a b o u w' ha hb ho)
  have FA := Lib.hid ha
  have FB := Lib.hid hb
  have PB := Lib.hid (fun p q ok => @pq_back a b p q ok)
  have TK : RowT 23 (ints [a, b]).length := ⟨⟨_, Tryd.underlying23, rfl⟩, by kernel_rfl⟩
  clear hT hE ha hb ho
  generalize idB a b = SB at *
  generalize keyB a b o u = KB at *
  generalize mayId a b = mv at *
  go_enter Tryd.func5, Tryd.ntmps5
  go_upto_region 1 with fail
  generalize hg0 : w.heap.size = g0 at *
  have HG0 := Lib.hid hg0
  generalize w.alloc (.cells #[.int .i64 a, .int .i64 b, .int .i64 o, .bool u] 25) = w1 at *
  clear hg0
  have AL1 := Lib.hid (HAL.out w1 HB.out)
  go_wp2_with fail
  refine AL1.out.mono ?_
  rintro e w2 ⟨rfl, hb⟩
  have HB2 := Lib.hid (HB.out.trans (hb.mono (HG0.out ▸ HB.out.size)))
  have A2 := Lib.hid (A.out.keep hb A.out.lt)
  have CP2 := Lib.hid (CP.out w2 HB2.out)
  clear hb HB A AL1 HAL CP
  go_wp2_with fail
  refine CP2.out.mono ?_
  rintro e w3 ⟨⟨p, q, ok, rfl, h1⟩, hb⟩
  have H1 := Lib.hid h1
  have HB3 := Lib.hid (HB2.out.trans (hb.mono (HG0.out ▸ HB2.out.size)))
  have A3 := Lib.hid (A2.out.keep hb A2.out.lt)
  clear hb HB2 A2 CP2 h1
  have TI : RowT 23 (ints [p, q]).length := ⟨⟨_, Tryd.underlying23, rfl⟩, by kernel_rfl⟩
  have OX : Hid (∀ u ∈ ints [p, q], u.oneCell' = true) := Lib.hid fun u hu => ints_one hu
  have D := Lib.hid (Blk.new w3 (ints [p, q]).toArray 23)
  have A4 := Lib.hid (A3.out.alloc (.cells (ints [p, q]).toArray 23))
  have HB4 := Lib.hid (HB3.out.alloc (HG0.out ▸ HB3.out.size) (.cells (ints [p, q]).toArray 23))
  clear HB3 A3
  go_upto_region 4 with (first
    | ((with_reducible refine st_row_new (old := #[.int .i64 0, .int .i64 0]) TI OX.out ?_ ?_ rfl ?_); (· rfl); (· rfl); (simp only [Act.put, List.setIfInBounds_toArray, List.set_cons_zero, List.set_cons_succ])))
  generalize hg3 : w3.heap.size = g3 at *
  generalize w3.alloc (.cells (ints [p, q]).toArray 23) = w4 at *
  clear hg3
  go_wp2_with fail
  refine (CR.out _).mono ?_
  rintro e w5 ⟨⟨p2, q2, ok2, rfl, h2⟩, hb⟩
  obtain ⟨rfl, rfl, rfl⟩ := pq_same H1.out h2
  have HB5 := Lib.hid (HB4.out.trans (hb.mono (HG0.out ▸ HB4.out.size)))
  have A5 := Lib.hid (A4.out.keep hb A4.out.lt)
  have D5 := Lib.hid (D.out.keep hb D.out.lt)
  clear hb HB4 A4 D h2 CR
  have E := Lib.hid (Blk.new w5 (ints [p2, q2]).toArray 23)
  have A6 := Lib.hid (A5.out.alloc (.cells (ints [p2, q2]).toArray 23))
  have D6 := Lib.hid (D5.out.alloc (.cells (ints [p2, q2]).toArray 23))
  have HB6 := Lib.hid (HB5.out.alloc (HG0.out ▸ HB5.out.size) (.cells (ints [p2, q2]).toArray 23))
  clear HB5 A5 D5
  go_upto_region 5 with (first
    | ((with_reducible refine st_row_new (old := #[.int .i64 0, .int .i64 0]) TI OX.out ?_ ?_ rfl ?_); (· rfl); (· rfl); (simp only [Act.put, List.setIfInBounds_toArray, List.set_cons_zero, List.set_cons_succ])))
  generalize hg5 : w5.heap.size = g5 at *
  generalize w5.alloc (.cells (ints [p2, q2]).toArray 23) = w6 at *
  clear hg5
  have rk := A6.out.range 0 (ints [a, b]) rfl
  have C16 := Lib.hid (C1.out w6 HB6.out)
  go_wp2_with (first | ((with_reducible refine ld_row rk TK ?_ ?_ ?_); (· rfl); (· rfl); (simp only [Act.put, List.setIfInBounds_toArray, List.set_cons_zero, List.set_cons_succ])))
  refine C16.out.mono ?_
  rintro e w7 ⟨rfl, hb⟩
  have HB7 := Lib.hid (HB6.out.trans (hb.mono (HG0.out ▸ HB6.out.size)))
  have A7 := Lib.hid (A6.out.keep hb A6.out.lt)
  have D7 := Lib.hid (D6.out.keep hb D6.out.lt)
  have E7 := Lib.hid (E.out.keep hb E.out.lt)
  have CQ7 := Lib.hid (CQ.out w7 HB7.out)
  clear hb HB6 A6 D6 E rk C16 CQ
  go_wp2_with fail
  refine CQ7.out.mono ?_
  rintro e w8 ⟨⟨p3, q3, ok3, rfl, h3⟩, hb⟩
  obtain ⟨hmv, hpq⟩ := PB.out _ _ _ h3
  subst hmv
  have HPQ := Lib.hid hpq
  have F3 := Lib.hid (pq_fits h3)
  have HB8 := Lib.hid (HB7.out.trans (hb.mono (HG0.out ▸ HB7.out.size)))
  have A8 := Lib.hid (A7.out.keep hb A7.out.lt)
  have D8 := Lib.hid (D7.out.keep hb D7.out.lt)
  have E8 := Lib.hid (E7.out.keep hb E7.out.lt)
  clear hb HB7 A7 D7 E7 CQ7 h3 hpq PB
  have TJ : RowT 23 (ints [p3, q3]).length := ⟨⟨_, Tryd.underlying23, rfl⟩, by kernel_rfl⟩
  have OY : Hid (∀ u ∈ ints [p3, q3], u.oneCell' = true) := Lib.hid fun u hu => ints_one hu
  have G := Lib.hid (Blk.new w8 (ints [p3, q3]).toArray 23)
  have A9 := Lib.hid (A8.out.alloc (.cells (ints [p3, q3]).toArray 23))
  have D9 := Lib.hid (D8.out.alloc (.cells (ints [p3, q3]).toArray 23))
  have E9 := Lib.hid (E8.out.alloc (.cells (ints [p3, q3]).toArray 23))
  have HB9 := Lib.hid (HB8.out.alloc (HG0.out ▸ HB8.out.size) (.cells (ints [p3, q3]).toArray 23))
  clear HB8 A8 D8 E8
  go_upto_region 6 with (first
    | ((with_reducible refine st_row_new (old := #[.int .i64 0, .int .i64 0]) TJ OY.out ?_ ?_ rfl ?_); (· rfl); (· rfl); (simp only [Act.put, List.setIfInBounds_toArray, List.set_cons_zero, List.set_cons_succ])))
  generalize hg8 : w8.heap.size = g8 at *
  generalize w8.alloc (.cells (ints [p3, q3]).toArray 23) = w9 at *
  clear hg8
  have rk := A9.out.range 0 (ints [a, b]) rfl
  go_wp2_with (first | ((with_reducible refine ld_row rk TK ?_ ?_ ?_); (· rfl); (· rfl); (simp only [Act.put, List.setIfInBounds_toArray, List.set_cons_zero, List.set_cons_succ])))
  refine (CM.out _).mono ?_
  rintro e w10 ⟨rfl, hb⟩
  have HB10 := Lib.hid (HB9.out.trans (hb.mono (HG0.out ▸ HB9.out.size)))
  have A10 := Lib.hid (A9.out.keep hb A9.out.lt)
  have D10 := Lib.hid (D9.out.keep hb D9.out.lt)
  have E10 := Lib.hid (E9.out.keep hb E9.out.lt)
  have G10 := Lib.hid (G.out.keep hb G.out.lt)
  clear hb HB9 A9 D9 E9 G rk CM
  have rk := A10.out.range 0 (ints [a, b]) rfl
  have rg := G10.out.range 0 (ints [p3, q3]) rfl
  have FP := Lib.hid (pq_fits H1.out)
  have EQI : Hid (∀ w, (binOp .eql 23 (.agg (ints [p2, q2]).toArray) (.agg (ints [p2, q2]).toArray)).run Tryd.prog w = .ok (.bool true) w) := Lib.hid (fun w => by have := id_eql FP.out.1 FP.out.2 FP.out.1 FP.out.2 w; simpa [ints] using this)
  have l1 := Lib.hid A10.out.lt
  have l2 := Lib.hid D10.out.lt
  have l3 := Lib.hid E10.out.lt
  have kc := fun w1 (hw : Below g0 w w1) => hw
  have HC : Hid (∀ w', Below w10.heap.size w10 w' → Below g0 w w') := Lib.hid (fun w' hb => HB10.out.trans (hb.mono (HG0.out ▸ HB10.out.size)))
  have es1 : (SB.toList == SB.toList) = true := by simp
  have es2 : (KB.toList == KB.toList) = true := by simp
  clear kc
  cases ok3
  · go_upto_region 8 with (first
      | ((with_reducible refine ld_row rk TK ?_ ?_ ?_); (· rfl); (· rfl); (simp only [Act.put, List.setIfInBounds_toArray, List.set_cons_zero, List.set_cons_succ]))
      | ((with_reducible refine ld_row rg TJ ?_ ?_ ?_); (· rfl); (· rfl); (simp only [Act.put, List.setIfInBounds_toArray, List.set_cons_zero, List.set_cons_succ])))
    clear rk rg H1 HPQ F3 FP G10
    have C1H := Lib.hid (fun w' hb => C1.out w' (HC.out w' hb))
    have C2H := Lib.hid (fun w' hb => C2.out w' (HC.out w' hb))
    have C3H := Lib.hid (fun w' hb => C3.out w' (HC.out w' hb))
    have C4H := Lib.hid (fun w' hb => C4.out w' (HC.out w' hb))
    clear C1 C2 C3 C4
    refine q_begin (by kernel_rfl) (by kernel_rfl) ?_
    repeat (first
      | go_big_quiet_skip
      | ((with_reducible apply q_part (xs := ints [a, b])); (· rfl); (· rfl); (· exact Tryd.underlying23); (· rfl); (· exact A10.out); (· exact l1.out); (· rfl); (· exact id_size); (simp only [Act.put, List.setIfInBounds_toArray, List.set_cons_zero, List.set_cons_succ]))
      | ((with_reducible apply q_row); (· rfl); (· rfl); (· exact Tryd.underlying25); (· rfl); (· exact A10.out); (· exact l1.out); (· exact key_size); (simp only [Act.put, List.setIfInBounds_toArray, List.set_cons_zero, List.set_cons_succ]))
      | ((with_reducible apply q_row); (· rfl); (· rfl); (· exact Tryd.underlying23); (· rfl); (· exact D10.out); (· exact l2.out); (· exact id_size); (simp only [Act.put, List.setIfInBounds_toArray, List.set_cons_zero, List.set_cons_succ]))
      | ((with_reducible apply q_row); (· rfl); (· rfl); (· exact Tryd.underlying23); (· rfl); (· exact E10.out); (· exact l3.out); (· exact id_size); (simp only [Act.put, List.setIfInBounds_toArray, List.set_cons_zero, List.set_cons_succ]))
      | ((with_reducible apply q_call 19 (.string SB)); (· rfl); (· exact Nat.le_refl _); (· intro w hw; exact C1H.out w hw); (· intro w; go_simp); (simp only [Act.put, List.setIfInBounds_toArray, List.set_cons_zero, List.set_cons_succ]))
      | ((with_reducible apply q_call 20 (.string SB)); (· rfl); (· exact Nat.le_refl _); (· intro w hw; exact C2H.out w hw); (· intro w; go_simp); (simp only [Act.put, List.setIfInBounds_toArray, List.set_cons_zero, List.set_cons_succ]))
      | ((with_reducible apply q_call 21 (.string KB)); (· rfl); (· exact Nat.le_refl _); (· intro w hw; exact C3H.out w hw); (· intro w; go_simp); (simp only [Act.put, List.setIfInBounds_toArray, List.set_cons_zero, List.set_cons_succ]))
      | ((with_reducible apply q_call 22 (.string KB)); (· rfl); (· exact Nat.le_refl _); (· intro w hw; exact C4H.out w hw); (· intro w; go_simp); (simp only [Act.put, List.setIfInBounds_toArray, List.set_cons_zero, List.set_cons_succ]))
      | ((with_reducible apply q_cmp); (· rfl); (· rfl); (· rfl); (· kernel_rfl); (· intro w; exact EQI.out w); (simp only [Act.put, List.setIfInBounds_toArray, List.set_cons_zero, List.set_cons_succ]))
      | (go_big_quiet_want; go_big_quiet_op; (first | go_big_quiet_on | (apply Exists.intro; refine ⟨fun _ _ => rfl, ?_⟩; go_big_quiet_on))))
    refine q_end ?_
    intro w11 hb
    have HB11 := HC.out w11 hb
    go_wp2_with fail
    go_ret
    have hge := HG0.out
    subst hge
    exact ⟨rfl, HB11⟩
  · have NEI : Hid (∀ w, (binOp .neq 23 (.agg (ints [p3, q3]).toArray) (.agg (ints [a, b]).toArray)).run Tryd.prog w = .ok (.bool false) w) := Lib.hid (fun w => by
      have := id_neq F3.out.1 F3.out.2 FA.out FB.out w
      rw [decide_eq_true (HPQ.out rfl)] at this
      simpa [ints] using this)
    go_upto_region 8 with (first
      | ((with_reducible refine ld_row rk TK ?_ ?_ ?_); (· rfl); (· rfl); (simp only [Act.put, List.setIfInBounds_toArray, List.set_cons_zero, List.set_cons_succ]))
      | ((with_reducible refine ld_row rg TJ ?_ ?_ ?_); (· rfl); (· rfl); (simp only [Act.put, List.setIfInBounds_toArray, List.set_cons_zero, List.set_cons_succ]))
      | ((with_reducible refine cmp_row id_grd NEI.out ?_ ?_ ?_ ?_); (· rfl); (· rfl); (· rfl); (simp only [Act.put, List.setIfInBounds_toArray, List.set_cons_zero, List.set_cons_succ])))
    clear rk rg H1 HPQ F3 FP G10 NEI
    have C1H := Lib.hid (fun w' hb => C1.out w' (HC.out w' hb))
    have C2H := Lib.hid (fun w' hb => C2.out w' (HC.out w' hb))
    have C3H := Lib.hid (fun w' hb => C3.out w' (HC.out w' hb))
    have C4H := Lib.hid (fun w' hb => C4.out w' (HC.out w' hb))
    clear C1 C2 C3 C4
    refine q_begin (by kernel_rfl) (by kernel_rfl) ?_
    repeat (first
      | go_big_quiet_skip
      | ((with_reducible apply q_part (xs := ints [a, b])); (· rfl); (· rfl); (· exact Tryd.underlying23); (· rfl); (· exact A10.out); (· exact l1.out); (· rfl); (· exact id_size); (simp only [Act.put, List.setIfInBounds_toArray, List.set_cons_zero, List.set_cons_succ]))
      | ((with_reducible apply q_row); (· rfl); (· rfl); (· exact Tryd.underlying25); (· rfl); (· exact A10.out); (· exact l1.out); (· exact key_size); (simp only [Act.put, List.setIfInBounds_toArray, List.set_cons_zero, List.set_cons_succ]))
      | ((with_reducible apply q_row); (· rfl); (· rfl); (· exact Tryd.underlying23); (· rfl); (· exact D10.out); (· exact l2.out); (· exact id_size); (simp only [Act.put, List.setIfInBounds_toArray, List.set_cons_zero, List.set_cons_succ]))
      | ((with_reducible apply q_row); (· rfl); (· rfl); (· exact Tryd.underlying23); (· rfl); (· exact E10.out); (· exact l3.out); (· exact id_size); (simp only [Act.put, List.setIfInBounds_toArray, List.set_cons_zero, List.set_cons_succ]))
      | ((with_reducible apply q_call 19 (.string SB)); (· rfl); (· exact Nat.le_refl _); (· intro w hw; exact C1H.out w hw); (· intro w; go_simp); (simp only [Act.put, List.setIfInBounds_toArray, List.set_cons_zero, List.set_cons_succ]))
      | ((with_reducible apply q_call 20 (.string SB)); (· rfl); (· exact Nat.le_refl _); (· intro w hw; exact C2H.out w hw); (· intro w; go_simp); (simp only [Act.put, List.setIfInBounds_toArray, List.set_cons_zero, List.set_cons_succ]))
      | ((with_reducible apply q_call 21 (.string KB)); (· rfl); (· exact Nat.le_refl _); (· intro w hw; exact C3H.out w hw); (· intro w; go_simp); (simp only [Act.put, List.setIfInBounds_toArray, List.set_cons_zero, List.set_cons_succ]))
      | ((with_reducible apply q_call 22 (.string KB)); (· rfl); (· exact Nat.le_refl _); (· intro w hw; exact C4H.out w hw); (· intro w; go_simp); (simp only [Act.put, List.setIfInBounds_toArray, List.set_cons_zero, List.set_cons_succ]))
      | ((with_reducible apply q_cmp); (· rfl); (· rfl); (· rfl); (· kernel_rfl); (· intro w; exact EQI.out w); (simp only [Act.put, List.setIfInBounds_toArray, List.set_cons_zero, List.set_cons_succ]))
      | (go_big_quiet_want; go_big_quiet_op; (first | go_big_quiet_on | (apply Exists.intro; refine ⟨fun _ _ => rfl, ?_⟩; go_big_quiet_on))))
    refine q_end ?_
    intro w11 hb
    have HB11 := HC.out w11 hb
    go_wp2_with fail
    go_ret
    have hge := HG0.out
    subst hge
    exact ⟨rfl, HB11⟩
theorem texts06_law (v0 v1 : Value) (w : World) (hL : laidMet Tryd.prog Rows.identTextsRow.laid w) (h0 : Arg Tryd.prog w 25 v0) (h1 : Arg Tryd.prog w 9 v1) : Calls Tryd.prog 5 #[v0, v1] w fun e w' => e = .returned (.bool true) ∧ Below w.heap.size w w' := by
  have hT : PTab w := ptab6 hL (l := Rows.identTextsRow.laid) (List.Mem.tail _ (List.Mem.tail _ (List.Mem.head _)))
  obtain ⟨a, b, o, u, rfl, f1, f2, f3⟩ := h0.key
  obtain ⟨s, rfl, hs⟩ := h1.str Tryd.underlying9
  exact texts06 a b o u s hs w hT (etab6 hL) f1 f2 f3
end Go.Proofs.YtbdonjapcpfgiaaDoor
