/- The laws of shelf: what things cost. -/
import Derived.Test.YtdphejjiiogikaaLaw13
import Derived.Deep.QuietTactic
import Derived.BigQuiet
import Derived.Lib.SmallJoins
namespace Go.Proofs.Ytdphejjiiogikaa
set_option linter.unusedVariables false
set_option linter.unusedSimpArgs false
open Go.ChangeShapes Go.WideShapes Go.ChangeAt Go.RowKit
theorem run_quo (a b : Int) (hb : b ≠ 0) (w : World) : (Op.intDiv .quo .i64 a b).run Try.prog w = .ok (.int .i64 (IntKind.i64.wrap (a.tdiv b))) w := by
  simp [Op.intDiv, hb]
theorem st_quo {ops : Array Oper} {rest : List Oper} {a : Act} {w : World} {R : Act → Prop} {d t t' : Nat} {ty : TypeId} {ps : String} {af : Array Edge} {gd : Option (Nat × Bool)} {y m z : Int} (hx : a.eval (.tmp t) = .int .i64 y) (hy : a.eval (.tmp t') = .int .i64 m) (hw : Region.wanted ⟨some d, .binOp .quo 2 (.tmp t) (.tmp t') 2, ty, ps, af, gd⟩ (yielded ops a.tmps) = true) (hm : m ≠ 0) (hz : IntKind.i64.wrap (y.tdiv m) = z)
    (h : wpStill Try.prog ops w R rest (a.put (some d) (.int .i64 z))) : wpStill Try.prog ops w R (⟨some d, .binOp .quo 2 (.tmp t) (.tmp t') 2, ty, ps, af, gd⟩ :: rest) a :=
  st_run hw (by
    unfold execOp
    simp only [hx, hy, eqGuard_quo, binOp_quo, Sem.run_bind, Sem.run_pure, Result.andThen_ok, run_quo y m hm w, hz]) h
theorem still_hide {ops : Array Oper} {l : List Oper} {a : Act} {w : World} {R : Act → Prop} (h : ∀ R' : Act → Prop, (∀ a, R a → R' a) → wpStill Try.prog ops w R' l a) : wpStill Try.prog ops w R l a := h R fun _ h => h
theorem st_skip {ops : Array Oper} {rest : List Oper} {a : Act} {w : World} {R : Act → Prop} {o : Oper} (hw : Region.wanted o (yielded ops a.tmps) = false) (h : wpStill Try.prog ops w R rest (a.put o.dst undef)) : wpStill Try.prog ops w R (o :: rest) a :=
  wpStill_step fun K hK => by
    rw [if_neg (by rw [hw]; exact Bool.false_ne_true)]
    exact hK _ h
theorem st_eqc {ops : Array Oper} {rest : List Oper} {a : Act} {w : World} {R : Act → Prop} {d t : Nat} {ty : TypeId} {ps : String} {af : Array Edge} {gd : Option (Nat × Bool)} {x c : Int} {b : Bool} (hx : a.eval (.tmp t) = .int .i64 x) (hw : Region.wanted ⟨some d, .binOp .eql 2 (.tmp t) (.const (.int .i64 c)) 2, ty, ps, af, gd⟩ (yielded ops a.tmps) = true) (hb : (x == c) = b)
    (h : wpStill Try.prog ops w R rest (a.put (some d) (.bool b))) : wpStill Try.prog ops w R (⟨some d, .binOp .eql 2 (.tmp t) (.const (.int .i64 c)) 2, ty, ps, af, gd⟩ :: rest) a :=
  st_run hw (by
    unfold execOp
    have hc : a.eval (.const (.int .i64 c)) = .int .i64 c := rfl
    simp only [hx, hc, eqGuard_at_int, binOp_eql, Sem.run_bind, Sem.run_pure, Result.andThen_ok, hb]) h
theorem small_quo {x m y : Int} (hy : x * m = y) (hm : 0 < m) (hx : fits x = true) : IntKind.i64.wrap (y.tdiv m) = x := by
  rw [← hy, Int.mul_tdiv_cancel x (by omega)]
  exact IntWalk.i64_in _ (by rw [fits_iff] at hx; omega)
theorem pos_m {x m : Int} (hm : 0 ≤ m) (ho : 1099511627776 < x * m) : 0 < m := by
  rcases Int.lt_or_le 0 m with h | h
  · exact h
  · obtain rfl : m = 0 := by omega
    rw [Int.mul_zero] at ho; omega
theorem low_one {x m y : Int} (hy : x * m = y) (hx : x = -9223372036854775808) (hl : -9223372036854775808 ≤ y) : m ≤ 1 := by
  subst hx; omega
theorem pos_x {x m y : Int} (hy : x * m = y) (hm : 0 < m) (ho : 1099511627776 < y) : ¬ x = -9223372036854775808 := by
  intro h; subst h; omega
theorem big_pos {x m y : Int} (hy : x * m = y) (hx : fits x = true) (hf : fits y = false) (hm : 0 ≤ m) : 1 < m := by
  rcases Int.lt_or_le 1 m with h | h
  · exact h
  · have : m = 0 ∨ m = 1 := by omega
    rcases this with rfl | rfl
    · rw [Int.mul_zero] at hy; subst hy; exact absurd hf (by decide)
    · rw [Int.mul_one] at hy; subst hy; rw [hx] at hf; cases hf
theorem big_quo {x m y P : Int} (hy : x * m = y) (hf : fits y = false) (hP : wrap64 y = P) (hm : 1 < m) (hm1 : m ≤ 1099511627776) : (IntKind.i64.wrap (P.tdiv m) != x) = true := by
  have hPr : -9223372036854775808 ≤ P ∧ P ≤ 9223372036854775807 := by rw [← hP]; unfold wrap64; omega
  have h1 := Int.mul_tdiv_add_tmod P m
  have h2 : P.tmod m < m := by
    rcases Int.lt_or_le P 0 with h | h
    · have := Int.tmod_lt_of_pos P (show 0 < m by omega); omega
    · exact Int.tmod_lt_of_pos P (by omega)
  have h3 : -m < P.tmod m := Int.lt_tmod_of_pos P (by omega)
  have hr : -9223372036854775808 ≤ P.tdiv m ∧ P.tdiv m ≤ 9223372036854775807 := by
    generalize P.tdiv m = q at *
    generalize P.tmod m = r at *
    constructor
    · rcases Int.lt_or_le q (-9223372036854775808) with h | h
      · have : m * q ≤ 2 * q := Int.mul_le_mul_of_nonpos_right (by omega) (by omega)
        have h5 : m * q + m ≤ m * (q + 1) := by rw [Int.mul_add, Int.mul_one]; omega
        have h6 : m * (q + 1) ≤ 2 * (q + 1) := Int.mul_le_mul_of_nonpos_right (by omega) (by omega)
        omega
      · exact h
    · rcases Int.lt_or_le 9223372036854775807 q with h | h
      · have h6 : 2 * (q - 1) ≤ m * (q - 1) := Int.mul_le_mul_of_nonneg_right (by omega) (by omega)
        have h5 : m * (q - 1) = m * q - m := by rw [Int.mul_sub, Int.mul_one]
        omega
      · exact h
  rw [IntWalk.i64_in _ hr, bne_iff_ne]
  intro hq
  rw [hq, Int.mul_comm, hy] at h1
  have hnf : ¬ (-9223372036854775808 ≤ y ∧ y ≤ 9223372036854775807) := fun h => by rw [(fits_iff y).2 h] at hf; cases hf
  unfold wrap64 at hP
  omega
set_option maxRecDepth 100000 in
set_option maxHeartbeats 2000000 in
theorem costs_ok_a (s p u : List Int) (a : Option Addr) (n c : Nat) (xs : List Value) (k : Nat) (m x y : Int) (w : World) (hbk : BookIn w s p u a n c xs) (hk : k < 8) (hm0 : 0 ≤ m) (hm1 : m ≤ 1099511627776) (hx : p.getD k 0 = x) (hfx : fits x = true) (hy : x * m = y) (hf : fits y = true) (ho : y ≤ 1099511627776) (hmp : 0 < m) (hm30 : m ≤ 1073741824) :
    Calls Try.prog 4 #[.agg (bkc s p u (.slice a n c)).toArray, .int .i64 k, .int .i64 m] w fun e w' => e = .returned (.bool true) ∧ Below w.heap.size w w' := by
  have h8 := Lib.hid hbk.l8
  have HS := Lib.hid hbk.sl
  have HO := Lib.hid hbk.one
  have HFp := Lib.hid hbk.fp
  have hok := Lib.hid hbk.ok
  have o8s : Ok8 s := ok_ints 8 s h8.out.s8 hbk.fs
  have o8p : Ok8 p := ok_ints 8 p h8.out.p8 hbk.fp
  have o8u : Ok8 u := ok_ints 8 u h8.out.u8 hbk.fu
  have hn : n * 56 ≤ 140737488355328 := Nat.le_trans hbk.bytes (by decide)
  clear hbk
  have B1 := Blk.new w (bkc s p u (.slice a n c)).toArray 25
  rw [List.toList_toArray] at B1
  have hb1 := (Below.refl w.heap.size w).alloc (Nat.le_refl _) (.cells (bkc s p u (.slice a n c)).toArray 25)
  go_enter Try.func4, Try.ntmps4
  go_wp2_with fail
  refine (alive13 _).mono ?_
  rintro e w1 ⟨rfl, hba⟩
  have B2 := B1.keep hba B1.lt
  have HB := Lib.hid (hb1.trans (hba.mono (by simp)))
  have hl := B2.lt
  clear B1 hb1 hba
  go_wp2_with ((with_reducible apply bk_load); (· rfl); (· assumption); (· (first | assumption | (apply hset_u; assumption) | (apply hset_s; assumption) | (apply hset_p; assumption))); (simp only [Act.put, List.setIfInBounds_toArray, List.set_cons_zero, List.set_cons_succ]))
  have hi0 : (0 : Int) ≤ k := by omega
  have hi8 : (k : Int) < 8 := by omega
  obtain ⟨hxl, hxu⟩ := (fits_iff x).1 hfx
  refine (price_ok s p u a n c k xs m w1 h8 (HS.out.keep HB.out) HO.out hn hk hm0 hm30).mono ?_
  rintro e w2 ⟨va, vc, rfl, ho2, hb2⟩
  have h8g := hset_p h8 k m
  have hs2 := hb2.size
  have B3 := (B2.keep hb2 hl).alloc (.cells (bkc s (p.set k m) u (.slice va n vc)).toArray 25)
  have HB3 := Lib.hid (below_al (HB.out.trans (hb2.mono HB.out.size)) (Nat.le_trans HB.out.size hs2) (.cells (bkc s (p.set k m) u (.slice va n vc)).toArray 25))
  have C3 := Blk.new w2 (bkc s (p.set k m) u (.slice va n vc)).toArray 25
  rw [List.toList_toArray] at C3
  have hlB := B3.lt
  have hlC := C3.lt
  have HO3 := Lib.hid (own_alloc ho2 (.cells (bkc s (p.set k m) u (.slice va n vc)).toArray 25))
  clear ho2
  clear hb2 B2 HB
  go_upto_region 4 with (first
    | ((with_reducible apply bk_store_new); (· rfl); (· first | rfl | simp); (· rfl); (· rfl); (· (first | assumption | (apply hset_u; assumption) | (apply hset_s; assumption) | (apply hset_p; assumption))); (simp only [Act.put, List.setIfInBounds_toArray, List.set_cons_zero, List.set_cons_succ]))
    | ((with_reducible apply bk_load); (· rfl); (· (first | assumption | (apply Blk.alloc; assumption))); (· (first | assumption | (apply hset_u; assumption) | (apply hset_s; assumption) | (apply hset_p; assumption))); (simp only [Act.put, List.setIfInBounds_toArray, List.set_cons_zero, List.set_cons_succ])))
  generalize hg3 : w2.heap.size = g3 at *
  generalize w2.alloc (.cells (bkc s (p.set k m) u (.slice va n vc)).toArray 25) = W3 at *
  have B4 := B3.alloc (.cells (bkc s p u (.slice a n c)).toArray 25)
  have C4 := C3.alloc (.cells (bkc s p u (.slice a n c)).toArray 25)
  have E4 := Blk.new W3 (bkc s p u (.slice a n c)).toArray 25
  rw [List.toList_toArray] at E4
  have hsz3 := HB3.out.size
  have HB4 := Lib.hid (below_al HB3.out hsz3 (.cells (bkc s p u (.slice a n c)).toArray 25))
  have HV4 := Lib.hid ((Below.refl W3.heap.size W3).alloc (Nat.le_refl _) (.cells (bkc s p u (.slice a n c)).toArray 25))
  have slx3 := Lib.hid (sl_of_own HO3.out)
  have hne5 : w.heap.size ≠ W3.heap.size := by omega
  have hne35 : g3 ≠ W3.heap.size := by omega
  go_upto_region 8 with (first
    | ((with_reducible apply bk_store_new); (· rfl); (· first | rfl | simp); (· rfl); (· rfl); (· (first | assumption | (apply hset_u; assumption) | (apply hset_s; assumption) | (apply hset_p; assumption))); (simp only [Act.put, List.setIfInBounds_toArray, List.set_cons_zero, List.set_cons_succ]))
    | ((with_reducible apply bk_load); (· rfl); (· (first | assumption | (apply Blk.alloc; assumption))); (· (first | assumption | (apply hset_u; assumption) | (apply hset_s; assumption) | (apply hset_p; assumption))); (simp only [Act.put, List.setIfInBounds_toArray, List.set_cons_zero, List.set_cons_succ])))
  clear B3 C3
  generalize hg5e : W3.heap.size = g5 at *
  generalize W3.alloc (.cells (bkc s p u (.slice a n c)).toArray 25) = W5 at *
  have cw5 := (E4.cell (8 + k)).trans (bkc_p h8.out _ hk)
  have fw5 := E4.froz (8 + k)
  have hk0 : (0 : Int) ≤ k := by omega
  have hk8 : (k : Int) < 8 := by omega
  have E6 := E4.set (8 + k) (.int .i64 m)
  rw [bkc_set_p h8.out _ hk] at E6
  have B6 := B4.set_other hne5 (8 + k) (.int .i64 m)
  have C6 := C4.set_other hne35 (8 + k) (.int .i64 m)
  have HB6 := Lib.hid (below_set HB4.out (by omega : w.heap.size ≤ g5) (8 + k) (.int .i64 m))
  have HV6 := Lib.hid (below_set HV4.out (Nat.le_refl g5) (8 + k) (.int .i64 m))
  have hfm : fits m = true := by rw [fits_iff]; omega
  have o8x := ok8_set h8.out.p8 HFp.out k m hfm
  clear B4 C4 E4 HB4 HV4
  go_wp2_with (first
    | ((with_reducible apply bk_load); (· rfl); (· assumption); (· (first | assumption | (apply hset_u; assumption) | (apply hset_s; assumption) | (apply hset_p; assumption))); (simp only [Act.put, List.setIfInBounds_toArray, List.set_cons_zero, List.set_cons_succ]))
    | ((with_reducible apply bk_load_g); (· rfl); (· rfl); (· assumption); (· (first | assumption | (apply hset_u; assumption) | (apply hset_s; assumption) | (apply hset_p; assumption))); (simp only [Act.put, List.setIfInBounds_toArray, List.set_cons_zero, List.set_cons_succ])))
  refine (pbook_true s (p.set k m) u va a n vc c xs _ h8g o8s o8x o8u (Lib.hid (slx3.out.keep (by rw [hg5e]; exact HV6.out))) (Lib.hid (HS.out.keep HB6.out)) hok hn).mono ?_
  rintro e W7 ⟨rfl, hb7⟩
  have B7 := B6.keep hb7 B6.lt
  have HB7 := Lib.hid (HB6.out.trans (hb7.mono HB6.out.size))
  clear hb7 B6 C6 E6 HB6 HV6 cw5 fw5
  go_wp2_with (first
    | ((with_reducible apply bk_load); (· rfl); (· assumption); (· (first | assumption | (apply hset_u; assumption) | (apply hset_s; assumption) | (apply hset_p; assumption))); (simp only [Act.put, List.setIfInBounds_toArray, List.set_cons_zero, List.set_cons_succ]))
    | ((with_reducible apply bk_load_g); (· rfl); (· rfl); (· assumption); (· (first | assumption | (apply hset_u; assumption) | (apply hset_s; assumption) | (apply hset_p; assumption))); (simp only [Act.put, List.setIfInBounds_toArray, List.set_cons_zero, List.set_cons_succ])))
  refine (cost_ok s p u (.slice a n c) k m x y W7 h8 hk hm0 hm1 hx hfx hy hf ho).mono ?_
  rintro e w8 ⟨rfl, hb8⟩
  have HB8 := Lib.hid (HB7.out.trans (hb8.mono HB7.out.size))
  have B8 := B7.keep hb8 B7.lt
  have cu := (B8.cell (8 + k)).trans (bkc_p h8.out _ hk)
  rw [hx] at cu
  have hfine := Lib.hid (fun W => fine_yes (k : Int) m W hk0 hk8 hm0 hm1)
  clear hb8 B7
  go_upto_region 14 with (go_at_call 12; refine (hfine.out _).mono ?_; rintro e w' ⟨rfl, rfl⟩)
  have hmx : m * x = y := by rw [Int.mul_comm]; exact hy
  obtain ⟨hyl, hyu⟩ := (fits_iff y).1 hf
  have hmne : m ≠ 0 := by omega
  have hqz := Lib.hid (small_quo hy hmp hfx)
  by_cases hx63 : x = -9223372036854775808
  · have hm1' : m ≤ 1 := low_one hy hx63 hyl
    have e0 : (x == -9223372036854775808) = true := by rw [beq_iff_eq]; exact hx63
    clear hx63
    have e1 := Lib.hid e0
    clear e0
    go_upto_region 15 with fail
    refine wp_region_still_lit (by kernel_rfl) (by kernel_rfl) ?_
    change wpStill _ _ (World.drew w8) (fun a' => Exit.then _ _ _ a' (World.drew w8)) _ _
    have cu' : w8.drew.cell? ⟨w.heap.size, 8 + k, none⟩ = _ := cu
    have HB9 := Lib.hid HB8.out.drew
    clear cu B8 hf hfx hy
    generalize w8.drew = w9 at *
    refine still_hide fun R' hR' => ?_
    repeat (first
      | ((with_reducible apply st_skip); (· rfl); (simp only [Act.put, List.setIfInBounds_toArray, List.set_cons_zero, List.set_cons_succ]))
      | ((with_reducible apply st_eqc); (· rfl); (· rfl); (· exact e1.out); (simp only [Act.put, List.setIfInBounds_toArray, List.set_cons_zero, List.set_cons_succ]))
      | ((with_reducible apply st_quo); (· rfl); (· rfl); (· rfl); (· exact hmne); (· exact hqz.out); (simp only [Act.put, List.setIfInBounds_toArray, List.set_cons_zero, List.set_cons_succ]))
      | still_step)
    refine wpStill_nil (hR' _ ?_)
    clear hR' R'
    go_wp2_with fail
    go_ret
    exact ⟨rfl, HB9.out⟩
  · skip
    have e0 : (x == -9223372036854775808) = false := by rw [beq_eq_false_iff_ne]; exact hx63
    clear hx63
    have e1 := Lib.hid e0
    clear e0
    go_upto_region 15 with fail
    refine wp_region_still_lit (by kernel_rfl) (by kernel_rfl) ?_
    change wpStill _ _ (World.drew w8) (fun a' => Exit.then _ _ _ a' (World.drew w8)) _ _
    have cu' : w8.drew.cell? ⟨w.heap.size, 8 + k, none⟩ = _ := cu
    have HB9 := Lib.hid HB8.out.drew
    clear cu B8 hf hfx hy
    generalize w8.drew = w9 at *
    refine still_hide fun R' hR' => ?_
    repeat (first
      | ((with_reducible apply st_skip); (· rfl); (simp only [Act.put, List.setIfInBounds_toArray, List.set_cons_zero, List.set_cons_succ]))
      | ((with_reducible apply st_eqc); (· rfl); (· rfl); (· exact e1.out); (simp only [Act.put, List.setIfInBounds_toArray, List.set_cons_zero, List.set_cons_succ]))
      | ((with_reducible apply st_quo); (· rfl); (· rfl); (· rfl); (· exact hmne); (· exact hqz.out); (simp only [Act.put, List.setIfInBounds_toArray, List.set_cons_zero, List.set_cons_succ]))
      | still_step)
    refine wpStill_nil (hR' _ ?_)
    clear hR' R'
    go_wp2_with fail
    go_ret
    exact ⟨rfl, HB9.out⟩
set_option maxRecDepth 100000 in
set_option maxHeartbeats 2000000 in
theorem costs_over1_a (s p u : List Int) (a : Option Addr) (n c : Nat) (xs : List Value) (k : Nat) (m x y : Int) (w : World) (hbk : BookIn w s p u a n c xs) (hk : k < 8) (hm0 : 0 ≤ m) (hm1 : m ≤ 1099511627776) (hx : p.getD k 0 = x) (hfx : fits x = true) (hy : x * m = y) (hf : fits y = true) (ho : 1099511627776 < y) (hmp : 0 < m) (hm30 : m ≤ 1073741824) :
    Calls Try.prog 4 #[.agg (bkc s p u (.slice a n c)).toArray, .int .i64 k, .int .i64 m] w fun e w' => e = .returned (.bool true) ∧ Below w.heap.size w w' := by
  have h8 := Lib.hid hbk.l8
  have HS := Lib.hid hbk.sl
  have HO := Lib.hid hbk.one
  have HFp := Lib.hid hbk.fp
  have hok := Lib.hid hbk.ok
  have o8s : Ok8 s := ok_ints 8 s h8.out.s8 hbk.fs
  have o8p : Ok8 p := ok_ints 8 p h8.out.p8 hbk.fp
  have o8u : Ok8 u := ok_ints 8 u h8.out.u8 hbk.fu
  have hn : n * 56 ≤ 140737488355328 := Nat.le_trans hbk.bytes (by decide)
  clear hbk
  have B1 := Blk.new w (bkc s p u (.slice a n c)).toArray 25
  rw [List.toList_toArray] at B1
  have hb1 := (Below.refl w.heap.size w).alloc (Nat.le_refl _) (.cells (bkc s p u (.slice a n c)).toArray 25)
  go_enter Try.func4, Try.ntmps4
  go_wp2_with fail
  refine (alive13 _).mono ?_
  rintro e w1 ⟨rfl, hba⟩
  have B2 := B1.keep hba B1.lt
  have HB := Lib.hid (hb1.trans (hba.mono (by simp)))
  have hl := B2.lt
  clear B1 hb1 hba
  go_wp2_with ((with_reducible apply bk_load); (· rfl); (· assumption); (· (first | assumption | (apply hset_u; assumption) | (apply hset_s; assumption) | (apply hset_p; assumption))); (simp only [Act.put, List.setIfInBounds_toArray, List.set_cons_zero, List.set_cons_succ]))
  have hi0 : (0 : Int) ≤ k := by omega
  have hi8 : (k : Int) < 8 := by omega
  obtain ⟨hxl, hxu⟩ := (fits_iff x).1 hfx
  refine (price_ok s p u a n c k xs m w1 h8 (HS.out.keep HB.out) HO.out hn hk hm0 hm30).mono ?_
  rintro e w2 ⟨va, vc, rfl, ho2, hb2⟩
  have h8g := hset_p h8 k m
  have hs2 := hb2.size
  have B3 := (B2.keep hb2 hl).alloc (.cells (bkc s (p.set k m) u (.slice va n vc)).toArray 25)
  have HB3 := Lib.hid (below_al (HB.out.trans (hb2.mono HB.out.size)) (Nat.le_trans HB.out.size hs2) (.cells (bkc s (p.set k m) u (.slice va n vc)).toArray 25))
  have C3 := Blk.new w2 (bkc s (p.set k m) u (.slice va n vc)).toArray 25
  rw [List.toList_toArray] at C3
  have hlB := B3.lt
  have hlC := C3.lt
  have HO3 := Lib.hid (own_alloc ho2 (.cells (bkc s (p.set k m) u (.slice va n vc)).toArray 25))
  clear ho2
  clear hb2 B2 HB
  go_upto_region 4 with (first
    | ((with_reducible apply bk_store_new); (· rfl); (· first | rfl | simp); (· rfl); (· rfl); (· (first | assumption | (apply hset_u; assumption) | (apply hset_s; assumption) | (apply hset_p; assumption))); (simp only [Act.put, List.setIfInBounds_toArray, List.set_cons_zero, List.set_cons_succ]))
    | ((with_reducible apply bk_load); (· rfl); (· (first | assumption | (apply Blk.alloc; assumption))); (· (first | assumption | (apply hset_u; assumption) | (apply hset_s; assumption) | (apply hset_p; assumption))); (simp only [Act.put, List.setIfInBounds_toArray, List.set_cons_zero, List.set_cons_succ])))
  generalize hg3 : w2.heap.size = g3 at *
  generalize w2.alloc (.cells (bkc s (p.set k m) u (.slice va n vc)).toArray 25) = W3 at *
  have B4 := B3.alloc (.cells (bkc s p u (.slice a n c)).toArray 25)
  have C4 := C3.alloc (.cells (bkc s p u (.slice a n c)).toArray 25)
  have E4 := Blk.new W3 (bkc s p u (.slice a n c)).toArray 25
  rw [List.toList_toArray] at E4
  have hsz3 := HB3.out.size
  have HB4 := Lib.hid (below_al HB3.out hsz3 (.cells (bkc s p u (.slice a n c)).toArray 25))
  have HV4 := Lib.hid ((Below.refl W3.heap.size W3).alloc (Nat.le_refl _) (.cells (bkc s p u (.slice a n c)).toArray 25))
  have slx3 := Lib.hid (sl_of_own HO3.out)
  have hne5 : w.heap.size ≠ W3.heap.size := by omega
  have hne35 : g3 ≠ W3.heap.size := by omega
  go_upto_region 8 with (first
    | ((with_reducible apply bk_store_new); (· rfl); (· first | rfl | simp); (· rfl); (· rfl); (· (first | assumption | (apply hset_u; assumption) | (apply hset_s; assumption) | (apply hset_p; assumption))); (simp only [Act.put, List.setIfInBounds_toArray, List.set_cons_zero, List.set_cons_succ]))
    | ((with_reducible apply bk_load); (· rfl); (· (first | assumption | (apply Blk.alloc; assumption))); (· (first | assumption | (apply hset_u; assumption) | (apply hset_s; assumption) | (apply hset_p; assumption))); (simp only [Act.put, List.setIfInBounds_toArray, List.set_cons_zero, List.set_cons_succ])))
  clear B3 C3
  generalize hg5e : W3.heap.size = g5 at *
  generalize W3.alloc (.cells (bkc s p u (.slice a n c)).toArray 25) = W5 at *
  have cw5 := (E4.cell (8 + k)).trans (bkc_p h8.out _ hk)
  have fw5 := E4.froz (8 + k)
  have hk0 : (0 : Int) ≤ k := by omega
  have hk8 : (k : Int) < 8 := by omega
  have E6 := E4.set (8 + k) (.int .i64 m)
  rw [bkc_set_p h8.out _ hk] at E6
  have B6 := B4.set_other hne5 (8 + k) (.int .i64 m)
  have C6 := C4.set_other hne35 (8 + k) (.int .i64 m)
  have HB6 := Lib.hid (below_set HB4.out (by omega : w.heap.size ≤ g5) (8 + k) (.int .i64 m))
  have HV6 := Lib.hid (below_set HV4.out (Nat.le_refl g5) (8 + k) (.int .i64 m))
  have hfm : fits m = true := by rw [fits_iff]; omega
  have o8x := ok8_set h8.out.p8 HFp.out k m hfm
  clear B4 C4 E4 HB4 HV4
  go_wp2_with (first
    | ((with_reducible apply bk_load); (· rfl); (· assumption); (· (first | assumption | (apply hset_u; assumption) | (apply hset_s; assumption) | (apply hset_p; assumption))); (simp only [Act.put, List.setIfInBounds_toArray, List.set_cons_zero, List.set_cons_succ]))
    | ((with_reducible apply bk_load_g); (· rfl); (· rfl); (· assumption); (· (first | assumption | (apply hset_u; assumption) | (apply hset_s; assumption) | (apply hset_p; assumption))); (simp only [Act.put, List.setIfInBounds_toArray, List.set_cons_zero, List.set_cons_succ])))
  refine (pbook_true s (p.set k m) u va a n vc c xs _ h8g o8s o8x o8u (Lib.hid (slx3.out.keep (by rw [hg5e]; exact HV6.out))) (Lib.hid (HS.out.keep HB6.out)) hok hn).mono ?_
  rintro e W7 ⟨rfl, hb7⟩
  have B7 := B6.keep hb7 B6.lt
  have HB7 := Lib.hid (HB6.out.trans (hb7.mono HB6.out.size))
  clear hb7 B6 C6 E6 HB6 HV6 cw5 fw5
  go_wp2_with (first
    | ((with_reducible apply bk_load); (· rfl); (· assumption); (· (first | assumption | (apply hset_u; assumption) | (apply hset_s; assumption) | (apply hset_p; assumption))); (simp only [Act.put, List.setIfInBounds_toArray, List.set_cons_zero, List.set_cons_succ]))
    | ((with_reducible apply bk_load_g); (· rfl); (· rfl); (· assumption); (· (first | assumption | (apply hset_u; assumption) | (apply hset_s; assumption) | (apply hset_p; assumption))); (simp only [Act.put, List.setIfInBounds_toArray, List.set_cons_zero, List.set_cons_succ])))
  refine (cost_over1 s p u (.slice a n c) k m x y W7 h8 hk hm0 hm1 hx hfx hy hf ho).mono ?_
  rintro e w8 ⟨rfl, hb8⟩
  have HB8 := Lib.hid (HB7.out.trans (hb8.mono HB7.out.size))
  have B8 := B7.keep hb8 B7.lt
  have cu := (B8.cell (8 + k)).trans (bkc_p h8.out _ hk)
  rw [hx] at cu
  have hfine := Lib.hid (fun W => fine_yes (k : Int) m W hk0 hk8 hm0 hm1)
  clear hb8 B7
  go_upto_region 14 with (go_at_call 12; refine (hfine.out _).mono ?_; rintro e w' ⟨rfl, rfl⟩)
  have hmx : m * x = y := by rw [Int.mul_comm]; exact hy
  obtain ⟨hyl, hyu⟩ := (fits_iff y).1 hf
  have hmne : m ≠ 0 := by omega
  have hqz := Lib.hid (small_quo hy hmp hfx)
  have hx63 : ¬ x = -9223372036854775808 := pos_x hy hmp ho
  have e0 : (x == -9223372036854775808) = false := by rw [beq_eq_false_iff_ne]; exact hx63
  clear hx63
  have e1 := Lib.hid e0
  clear e0
  go_upto_region 15 with fail
  refine wp_region_still_lit (by kernel_rfl) (by kernel_rfl) ?_
  change wpStill _ _ (World.drew w8) (fun a' => Exit.then _ _ _ a' (World.drew w8)) _ _
  have cu' : w8.drew.cell? ⟨w.heap.size, 8 + k, none⟩ = _ := cu
  have HB9 := Lib.hid HB8.out.drew
  clear cu B8 hf hfx hy
  generalize w8.drew = w9 at *
  refine still_hide fun R' hR' => ?_
  repeat (first
    | ((with_reducible apply st_skip); (· rfl); (simp only [Act.put, List.setIfInBounds_toArray, List.set_cons_zero, List.set_cons_succ]))
    | ((with_reducible apply st_eqc); (· rfl); (· rfl); (· exact e1.out); (simp only [Act.put, List.setIfInBounds_toArray, List.set_cons_zero, List.set_cons_succ]))
    | ((with_reducible apply st_quo); (· rfl); (· rfl); (· rfl); (· exact hmne); (· exact hqz.out); (simp only [Act.put, List.setIfInBounds_toArray, List.set_cons_zero, List.set_cons_succ]))
    | still_step)
  refine wpStill_nil (hR' _ ?_)
  clear hR' R'
  go_wp2_with fail
  go_ret
  exact ⟨rfl, HB9.out⟩
set_option maxRecDepth 100000 in
set_option maxHeartbeats 2000000 in
theorem costs_over2_a (s p u : List Int) (a : Option Addr) (n c : Nat) (xs : List Value) (k : Nat) (m x y : Int) (w : World) (hbk : BookIn w s p u a n c xs) (hk : k < 8) (hm0 : 0 ≤ m) (hm1 : m ≤ 1099511627776) (hx : p.getD k 0 = x) (hfx : fits x = true) (hy : x * m = y) (hf : fits y = false) (hm30 : m ≤ 1073741824) :
    Calls Try.prog 4 #[.agg (bkc s p u (.slice a n c)).toArray, .int .i64 k, .int .i64 m] w fun e w' => e = .returned (.bool true) ∧ Below w.heap.size w w' := by
  have h8 := Lib.hid hbk.l8
  have HS := Lib.hid hbk.sl
  have HO := Lib.hid hbk.one
  have HFp := Lib.hid hbk.fp
  have hok := Lib.hid hbk.ok
  have o8s : Ok8 s := ok_ints 8 s h8.out.s8 hbk.fs
  have o8p : Ok8 p := ok_ints 8 p h8.out.p8 hbk.fp
  have o8u : Ok8 u := ok_ints 8 u h8.out.u8 hbk.fu
  have hn : n * 56 ≤ 140737488355328 := Nat.le_trans hbk.bytes (by decide)
  clear hbk
  have B1 := Blk.new w (bkc s p u (.slice a n c)).toArray 25
  rw [List.toList_toArray] at B1
  have hb1 := (Below.refl w.heap.size w).alloc (Nat.le_refl _) (.cells (bkc s p u (.slice a n c)).toArray 25)
  go_enter Try.func4, Try.ntmps4
  go_wp2_with fail
  refine (alive13 _).mono ?_
  rintro e w1 ⟨rfl, hba⟩
  have B2 := B1.keep hba B1.lt
  have HB := Lib.hid (hb1.trans (hba.mono (by simp)))
  have hl := B2.lt
  clear B1 hb1 hba
  go_wp2_with ((with_reducible apply bk_load); (· rfl); (· assumption); (· (first | assumption | (apply hset_u; assumption) | (apply hset_s; assumption) | (apply hset_p; assumption))); (simp only [Act.put, List.setIfInBounds_toArray, List.set_cons_zero, List.set_cons_succ]))
  have hi0 : (0 : Int) ≤ k := by omega
  have hi8 : (k : Int) < 8 := by omega
  obtain ⟨hxl, hxu⟩ := (fits_iff x).1 hfx
  refine (price_ok s p u a n c k xs m w1 h8 (HS.out.keep HB.out) HO.out hn hk hm0 hm30).mono ?_
  rintro e w2 ⟨va, vc, rfl, ho2, hb2⟩
  have h8g := hset_p h8 k m
  have hs2 := hb2.size
  have B3 := (B2.keep hb2 hl).alloc (.cells (bkc s (p.set k m) u (.slice va n vc)).toArray 25)
  have HB3 := Lib.hid (below_al (HB.out.trans (hb2.mono HB.out.size)) (Nat.le_trans HB.out.size hs2) (.cells (bkc s (p.set k m) u (.slice va n vc)).toArray 25))
  have C3 := Blk.new w2 (bkc s (p.set k m) u (.slice va n vc)).toArray 25
  rw [List.toList_toArray] at C3
  have hlB := B3.lt
  have hlC := C3.lt
  have HO3 := Lib.hid (own_alloc ho2 (.cells (bkc s (p.set k m) u (.slice va n vc)).toArray 25))
  clear ho2
  clear hb2 B2 HB
  go_upto_region 4 with (first
    | ((with_reducible apply bk_store_new); (· rfl); (· first | rfl | simp); (· rfl); (· rfl); (· (first | assumption | (apply hset_u; assumption) | (apply hset_s; assumption) | (apply hset_p; assumption))); (simp only [Act.put, List.setIfInBounds_toArray, List.set_cons_zero, List.set_cons_succ]))
    | ((with_reducible apply bk_load); (· rfl); (· (first | assumption | (apply Blk.alloc; assumption))); (· (first | assumption | (apply hset_u; assumption) | (apply hset_s; assumption) | (apply hset_p; assumption))); (simp only [Act.put, List.setIfInBounds_toArray, List.set_cons_zero, List.set_cons_succ])))
  generalize hg3 : w2.heap.size = g3 at *
  generalize w2.alloc (.cells (bkc s (p.set k m) u (.slice va n vc)).toArray 25) = W3 at *
  have B4 := B3.alloc (.cells (bkc s p u (.slice a n c)).toArray 25)
  have C4 := C3.alloc (.cells (bkc s p u (.slice a n c)).toArray 25)
  have E4 := Blk.new W3 (bkc s p u (.slice a n c)).toArray 25
  rw [List.toList_toArray] at E4
  have hsz3 := HB3.out.size
  have HB4 := Lib.hid (below_al HB3.out hsz3 (.cells (bkc s p u (.slice a n c)).toArray 25))
  have HV4 := Lib.hid ((Below.refl W3.heap.size W3).alloc (Nat.le_refl _) (.cells (bkc s p u (.slice a n c)).toArray 25))
  have slx3 := Lib.hid (sl_of_own HO3.out)
  have hne5 : w.heap.size ≠ W3.heap.size := by omega
  have hne35 : g3 ≠ W3.heap.size := by omega
  go_upto_region 8 with (first
    | ((with_reducible apply bk_store_new); (· rfl); (· first | rfl | simp); (· rfl); (· rfl); (· (first | assumption | (apply hset_u; assumption) | (apply hset_s; assumption) | (apply hset_p; assumption))); (simp only [Act.put, List.setIfInBounds_toArray, List.set_cons_zero, List.set_cons_succ]))
    | ((with_reducible apply bk_load); (· rfl); (· (first | assumption | (apply Blk.alloc; assumption))); (· (first | assumption | (apply hset_u; assumption) | (apply hset_s; assumption) | (apply hset_p; assumption))); (simp only [Act.put, List.setIfInBounds_toArray, List.set_cons_zero, List.set_cons_succ])))
  clear B3 C3
  generalize hg5e : W3.heap.size = g5 at *
  generalize W3.alloc (.cells (bkc s p u (.slice a n c)).toArray 25) = W5 at *
  have cw5 := (E4.cell (8 + k)).trans (bkc_p h8.out _ hk)
  have fw5 := E4.froz (8 + k)
  have hk0 : (0 : Int) ≤ k := by omega
  have hk8 : (k : Int) < 8 := by omega
  have E6 := E4.set (8 + k) (.int .i64 m)
  rw [bkc_set_p h8.out _ hk] at E6
  have B6 := B4.set_other hne5 (8 + k) (.int .i64 m)
  have C6 := C4.set_other hne35 (8 + k) (.int .i64 m)
  have HB6 := Lib.hid (below_set HB4.out (by omega : w.heap.size ≤ g5) (8 + k) (.int .i64 m))
  have HV6 := Lib.hid (below_set HV4.out (Nat.le_refl g5) (8 + k) (.int .i64 m))
  have hfm : fits m = true := by rw [fits_iff]; omega
  have o8x := ok8_set h8.out.p8 HFp.out k m hfm
  clear B4 C4 E4 HB4 HV4
  go_wp2_with (first
    | ((with_reducible apply bk_load); (· rfl); (· assumption); (· (first | assumption | (apply hset_u; assumption) | (apply hset_s; assumption) | (apply hset_p; assumption))); (simp only [Act.put, List.setIfInBounds_toArray, List.set_cons_zero, List.set_cons_succ]))
    | ((with_reducible apply bk_load_g); (· rfl); (· rfl); (· assumption); (· (first | assumption | (apply hset_u; assumption) | (apply hset_s; assumption) | (apply hset_p; assumption))); (simp only [Act.put, List.setIfInBounds_toArray, List.set_cons_zero, List.set_cons_succ])))
  refine (pbook_true s (p.set k m) u va a n vc c xs _ h8g o8s o8x o8u (Lib.hid (slx3.out.keep (by rw [hg5e]; exact HV6.out))) (Lib.hid (HS.out.keep HB6.out)) hok hn).mono ?_
  rintro e W7 ⟨rfl, hb7⟩
  have B7 := B6.keep hb7 B6.lt
  have HB7 := Lib.hid (HB6.out.trans (hb7.mono HB6.out.size))
  clear hb7 B6 C6 E6 HB6 HV6 cw5 fw5
  go_wp2_with (first
    | ((with_reducible apply bk_load); (· rfl); (· assumption); (· (first | assumption | (apply hset_u; assumption) | (apply hset_s; assumption) | (apply hset_p; assumption))); (simp only [Act.put, List.setIfInBounds_toArray, List.set_cons_zero, List.set_cons_succ]))
    | ((with_reducible apply bk_load_g); (· rfl); (· rfl); (· assumption); (· (first | assumption | (apply hset_u; assumption) | (apply hset_s; assumption) | (apply hset_p; assumption))); (simp only [Act.put, List.setIfInBounds_toArray, List.set_cons_zero, List.set_cons_succ])))
  refine (cost_over2 s p u (.slice a n c) k m x y W7 h8 hk hm0 hm1 hx hfx hy hf).mono ?_
  rintro e w8 ⟨rfl, hb8⟩
  have HB8 := Lib.hid (HB7.out.trans (hb8.mono HB7.out.size))
  have B8 := B7.keep hb8 B7.lt
  have cu := (B8.cell (8 + k)).trans (bkc_p h8.out _ hk)
  rw [hx] at cu
  have hfine := Lib.hid (fun W => fine_yes (k : Int) m W hk0 hk8 hm0 hm1)
  clear hb8 B7
  go_upto_region 14 with (go_at_call 12; refine (hfine.out _).mono ?_; rintro e w' ⟨rfl, rfl⟩)
  have hmx : m * x = y := by rw [Int.mul_comm]; exact hy
  have hmp : 1 < m := big_pos hy hfx hf hm0
  have hmp0 : 0 < m := by omega
  have hmne : m ≠ 0 := by omega
  have hne := big_quo hy hf rfl hmp hm1
  obtain ⟨Z, hqz⟩ : ∃ Z, IntKind.i64.wrap ((wrap64 y).tdiv m) = Z := ⟨_, rfl⟩
  rw [hqz] at hne
  have hqz0 := hqz
  clear hqz
  have hqz := Lib.hid hqz0
  clear hqz0
  by_cases hx63 : x = -9223372036854775808
  · skip
    have e0 : (x == -9223372036854775808) = true := by rw [beq_iff_eq]; exact hx63
    go_upto_region 15 with fail
    clear B8 hf hfx hy
    go_quiet (fail)
    go_wp2_with fail
    go_ret
    exact ⟨rfl, HB8.out.trans (Go.Joins.below_draws _ _ _)⟩
  · skip
    have e0 : (x == -9223372036854775808) = false := by rw [beq_eq_false_iff_ne]; exact hx63
    clear hx63
    have e1 := Lib.hid e0
    clear e0
    go_upto_region 15 with fail
    refine wp_region_still_lit (by kernel_rfl) (by kernel_rfl) ?_
    change wpStill _ _ (World.drew w8) (fun a' => Exit.then _ _ _ a' (World.drew w8)) _ _
    have cu' : w8.drew.cell? ⟨w.heap.size, 8 + k, none⟩ = _ := cu
    have HB9 := Lib.hid HB8.out.drew
    clear cu B8 hf hfx hy
    generalize w8.drew = w9 at *
    refine still_hide fun R' hR' => ?_
    repeat (first
      | ((with_reducible apply st_skip); (· rfl); (simp only [Act.put, List.setIfInBounds_toArray, List.set_cons_zero, List.set_cons_succ]))
      | ((with_reducible apply st_eqc); (· rfl); (· rfl); (· exact e1.out); (simp only [Act.put, List.setIfInBounds_toArray, List.set_cons_zero, List.set_cons_succ]))
      | ((with_reducible apply st_quo); (· rfl); (· rfl); (· rfl); (· exact hmne); (· exact hqz.out); (simp only [Act.put, List.setIfInBounds_toArray, List.set_cons_zero, List.set_cons_succ]))
      | still_step)
    refine wpStill_nil (hR' _ ?_)
    clear hR' R'
    go_wp2_with fail
    go_ret
    exact ⟨rfl, HB9.out⟩
set_option maxRecDepth 100000 in
set_option maxHeartbeats 2000000 in
theorem costs_ok_b (s p u : List Int) (a : Option Addr) (n c : Nat) (xs : List Value) (k : Nat) (m x y : Int) (w : World) (hbk : BookIn w s p u a n c xs) (hk : k < 8) (hm0 : 0 ≤ m) (hm1 : m ≤ 1099511627776) (hx : p.getD k 0 = x) (hfx : fits x = true) (hy : x * m = y) (hf : fits y = true) (ho : y ≤ 1099511627776) (hmp : 0 < m) (hm31 : 1073741824 < m) :
    Calls Try.prog 4 #[.agg (bkc s p u (.slice a n c)).toArray, .int .i64 k, .int .i64 m] w fun e w' => e = .returned (.bool true) ∧ Below w.heap.size w w' := by
  have h8 := Lib.hid hbk.l8
  have HS := Lib.hid hbk.sl
  have HO := Lib.hid hbk.one
  have HFp := Lib.hid hbk.fp
  have hok := Lib.hid hbk.ok
  have o8s : Ok8 s := ok_ints 8 s h8.out.s8 hbk.fs
  have o8p : Ok8 p := ok_ints 8 p h8.out.p8 hbk.fp
  have o8u : Ok8 u := ok_ints 8 u h8.out.u8 hbk.fu
  have hn : n * 56 ≤ 140737488355328 := Nat.le_trans hbk.bytes (by decide)
  clear hbk
  have B1 := Blk.new w (bkc s p u (.slice a n c)).toArray 25
  rw [List.toList_toArray] at B1
  have hb1 := (Below.refl w.heap.size w).alloc (Nat.le_refl _) (.cells (bkc s p u (.slice a n c)).toArray 25)
  go_enter Try.func4, Try.ntmps4
  go_wp2_with fail
  refine (alive13 _).mono ?_
  rintro e w1 ⟨rfl, hba⟩
  have B2 := B1.keep hba B1.lt
  have HB := Lib.hid (hb1.trans (hba.mono (by simp)))
  have hl := B2.lt
  clear B1 hb1 hba
  go_wp2_with ((with_reducible apply bk_load); (· rfl); (· assumption); (· (first | assumption | (apply hset_u; assumption) | (apply hset_s; assumption) | (apply hset_p; assumption))); (simp only [Act.put, List.setIfInBounds_toArray, List.set_cons_zero, List.set_cons_succ]))
  have hi0 : (0 : Int) ≤ k := by omega
  have hi8 : (k : Int) < 8 := by omega
  obtain ⟨hxl, hxu⟩ := (fits_iff x).1 hfx
  have hpr : ¬ (0 ≤ (k : Int) ∧ (k : Int) < 8 ∧ 0 ≤ m ∧ m ≤ 1073741824) := by omega
  refine (price_bad s p u a n c k m w1 hpr).mono ?_
  rintro e w2 ⟨rfl, hb2⟩
  have hz8 := Lib.hid L8.zero
  have hs2 := hb2.size
  have B3 := (B2.keep hb2 hl).alloc (.cells (bkc zero8 zero8 zero8 (.slice none 0 0)).toArray 25)
  have HB3 := Lib.hid (below_al (HB.out.trans (hb2.mono HB.out.size)) (Nat.le_trans HB.out.size hs2) (.cells (bkc zero8 zero8 zero8 (.slice none 0 0)).toArray 25))
  have C3 := Blk.new w2 (bkc zero8 zero8 zero8 (.slice none 0 0)).toArray 25
  rw [List.toList_toArray] at C3
  have hlB := B3.lt
  have hlC := C3.lt
  clear hb2 B2 HB
  go_wp2_with (first
    | ((with_reducible apply bk_store_new); (· rfl); (· first | rfl | simp); (· rfl); (· rfl); (· (first | assumption | (apply hset_u; assumption) | (apply hset_s; assumption) | (apply hset_p; assumption))); (simp only [Act.put, List.setIfInBounds_toArray, List.set_cons_zero, List.set_cons_succ]))
    | ((with_reducible apply bk_load); (· rfl); (· (first | assumption | (apply Blk.alloc; assumption))); (· (first | assumption | (apply hset_u; assumption) | (apply hset_s; assumption) | (apply hset_p; assumption))); (simp only [Act.put, List.setIfInBounds_toArray, List.set_cons_zero, List.set_cons_succ]))
    | ((with_reducible apply bk_load_g); (· rfl); (· rfl); (· assumption); (· (first | assumption | (apply hset_u; assumption) | (apply hset_s; assumption) | (apply hset_p; assumption))); (simp only [Act.put, List.setIfInBounds_toArray, List.set_cons_zero, List.set_cons_succ])))
  refine (pbook_zero _).mono ?_
  rintro e W7 ⟨rfl, hb7⟩
  have B7 := B3.keep hb7 hlB
  have HB7 := Lib.hid (HB3.out.trans (hb7.mono HB3.out.size))
  clear hb7 B3 C3 HB3
  go_wp2_with (first
    | ((with_reducible apply bk_load); (· rfl); (· assumption); (· (first | assumption | (apply hset_u; assumption) | (apply hset_s; assumption) | (apply hset_p; assumption))); (simp only [Act.put, List.setIfInBounds_toArray, List.set_cons_zero, List.set_cons_succ]))
    | ((with_reducible apply bk_load_g); (· rfl); (· rfl); (· assumption); (· (first | assumption | (apply hset_u; assumption) | (apply hset_s; assumption) | (apply hset_p; assumption))); (simp only [Act.put, List.setIfInBounds_toArray, List.set_cons_zero, List.set_cons_succ])))
  refine (cost_ok s p u (.slice a n c) k m x y W7 h8 hk hm0 hm1 hx hfx hy hf ho).mono ?_
  rintro e w8 ⟨rfl, hb8⟩
  have HB8 := Lib.hid (HB7.out.trans (hb8.mono HB7.out.size))
  have B8 := B7.keep hb8 B7.lt
  have cu := (B8.cell (8 + k)).trans (bkc_p h8.out _ hk)
  rw [hx] at cu
  have hk0 : (0 : Int) ≤ k := by omega
  have hk8 : (k : Int) < 8 := by omega
  have hfine := Lib.hid (fun W => fine_yes (k : Int) m W hk0 hk8 hm0 hm1)
  clear hb8 B7
  go_upto_region 14 with (go_at_call 12; refine (hfine.out _).mono ?_; rintro e w' ⟨rfl, rfl⟩)
  have hmx : m * x = y := by rw [Int.mul_comm]; exact hy
  obtain ⟨hyl, hyu⟩ := (fits_iff y).1 hf
  have hmne : m ≠ 0 := by omega
  have hqz := Lib.hid (small_quo hy hmp hfx)
  by_cases hx63 : x = -9223372036854775808
  · have hm1' : m ≤ 1 := low_one hy hx63 hyl
    exfalso
    omega
  · skip
    have e0 : (x == -9223372036854775808) = false := by rw [beq_eq_false_iff_ne]; exact hx63
    clear hx63
    have e1 := Lib.hid e0
    clear e0
    go_upto_region 15 with fail
    refine wp_region_still_lit (by kernel_rfl) (by kernel_rfl) ?_
    change wpStill _ _ (World.drew w8) (fun a' => Exit.then _ _ _ a' (World.drew w8)) _ _
    have cu' : w8.drew.cell? ⟨w.heap.size, 8 + k, none⟩ = _ := cu
    have HB9 := Lib.hid HB8.out.drew
    clear cu B8 hf hfx hy
    generalize w8.drew = w9 at *
    refine still_hide fun R' hR' => ?_
    repeat (first
      | ((with_reducible apply st_skip); (· rfl); (simp only [Act.put, List.setIfInBounds_toArray, List.set_cons_zero, List.set_cons_succ]))
      | ((with_reducible apply st_eqc); (· rfl); (· rfl); (· exact e1.out); (simp only [Act.put, List.setIfInBounds_toArray, List.set_cons_zero, List.set_cons_succ]))
      | ((with_reducible apply st_quo); (· rfl); (· rfl); (· rfl); (· exact hmne); (· exact hqz.out); (simp only [Act.put, List.setIfInBounds_toArray, List.set_cons_zero, List.set_cons_succ]))
      | still_step)
    refine wpStill_nil (hR' _ ?_)
    clear hR' R'
    go_wp2_with fail
    go_ret
    exact ⟨rfl, HB9.out⟩
set_option maxRecDepth 100000 in
set_option maxHeartbeats 2000000 in
theorem costs_over1_b (s p u : List Int) (a : Option Addr) (n c : Nat) (xs : List Value) (k : Nat) (m x y : Int) (w : World) (hbk : BookIn w s p u a n c xs) (hk : k < 8) (hm0 : 0 ≤ m) (hm1 : m ≤ 1099511627776) (hx : p.getD k 0 = x) (hfx : fits x = true) (hy : x * m = y) (hf : fits y = true) (ho : 1099511627776 < y) (hmp : 0 < m) (hm31 : 1073741824 < m) :
    Calls Try.prog 4 #[.agg (bkc s p u (.slice a n c)).toArray, .int .i64 k, .int .i64 m] w fun e w' => e = .returned (.bool true) ∧ Below w.heap.size w w' := by
  have h8 := Lib.hid hbk.l8
  have HS := Lib.hid hbk.sl
  have HO := Lib.hid hbk.one
  have HFp := Lib.hid hbk.fp
  have hok := Lib.hid hbk.ok
  have o8s : Ok8 s := ok_ints 8 s h8.out.s8 hbk.fs
  have o8p : Ok8 p := ok_ints 8 p h8.out.p8 hbk.fp
  have o8u : Ok8 u := ok_ints 8 u h8.out.u8 hbk.fu
  have hn : n * 56 ≤ 140737488355328 := Nat.le_trans hbk.bytes (by decide)
  clear hbk
  have B1 := Blk.new w (bkc s p u (.slice a n c)).toArray 25
  rw [List.toList_toArray] at B1
  have hb1 := (Below.refl w.heap.size w).alloc (Nat.le_refl _) (.cells (bkc s p u (.slice a n c)).toArray 25)
  go_enter Try.func4, Try.ntmps4
  go_wp2_with fail
  refine (alive13 _).mono ?_
  rintro e w1 ⟨rfl, hba⟩
  have B2 := B1.keep hba B1.lt
  have HB := Lib.hid (hb1.trans (hba.mono (by simp)))
  have hl := B2.lt
  clear B1 hb1 hba
  go_wp2_with ((with_reducible apply bk_load); (· rfl); (· assumption); (· (first | assumption | (apply hset_u; assumption) | (apply hset_s; assumption) | (apply hset_p; assumption))); (simp only [Act.put, List.setIfInBounds_toArray, List.set_cons_zero, List.set_cons_succ]))
  have hi0 : (0 : Int) ≤ k := by omega
  have hi8 : (k : Int) < 8 := by omega
  obtain ⟨hxl, hxu⟩ := (fits_iff x).1 hfx
  have hpr : ¬ (0 ≤ (k : Int) ∧ (k : Int) < 8 ∧ 0 ≤ m ∧ m ≤ 1073741824) := by omega
  refine (price_bad s p u a n c k m w1 hpr).mono ?_
  rintro e w2 ⟨rfl, hb2⟩
  have hz8 := Lib.hid L8.zero
  have hs2 := hb2.size
  have B3 := (B2.keep hb2 hl).alloc (.cells (bkc zero8 zero8 zero8 (.slice none 0 0)).toArray 25)
  have HB3 := Lib.hid (below_al (HB.out.trans (hb2.mono HB.out.size)) (Nat.le_trans HB.out.size hs2) (.cells (bkc zero8 zero8 zero8 (.slice none 0 0)).toArray 25))
  have C3 := Blk.new w2 (bkc zero8 zero8 zero8 (.slice none 0 0)).toArray 25
  rw [List.toList_toArray] at C3
  have hlB := B3.lt
  have hlC := C3.lt
  clear hb2 B2 HB
  go_wp2_with (first
    | ((with_reducible apply bk_store_new); (· rfl); (· first | rfl | simp); (· rfl); (· rfl); (· (first | assumption | (apply hset_u; assumption) | (apply hset_s; assumption) | (apply hset_p; assumption))); (simp only [Act.put, List.setIfInBounds_toArray, List.set_cons_zero, List.set_cons_succ]))
    | ((with_reducible apply bk_load); (· rfl); (· (first | assumption | (apply Blk.alloc; assumption))); (· (first | assumption | (apply hset_u; assumption) | (apply hset_s; assumption) | (apply hset_p; assumption))); (simp only [Act.put, List.setIfInBounds_toArray, List.set_cons_zero, List.set_cons_succ]))
    | ((with_reducible apply bk_load_g); (· rfl); (· rfl); (· assumption); (· (first | assumption | (apply hset_u; assumption) | (apply hset_s; assumption) | (apply hset_p; assumption))); (simp only [Act.put, List.setIfInBounds_toArray, List.set_cons_zero, List.set_cons_succ])))
  refine (pbook_zero _).mono ?_
  rintro e W7 ⟨rfl, hb7⟩
  have B7 := B3.keep hb7 hlB
  have HB7 := Lib.hid (HB3.out.trans (hb7.mono HB3.out.size))
  clear hb7 B3 C3 HB3
  go_wp2_with (first
    | ((with_reducible apply bk_load); (· rfl); (· assumption); (· (first | assumption | (apply hset_u; assumption) | (apply hset_s; assumption) | (apply hset_p; assumption))); (simp only [Act.put, List.setIfInBounds_toArray, List.set_cons_zero, List.set_cons_succ]))
    | ((with_reducible apply bk_load_g); (· rfl); (· rfl); (· assumption); (· (first | assumption | (apply hset_u; assumption) | (apply hset_s; assumption) | (apply hset_p; assumption))); (simp only [Act.put, List.setIfInBounds_toArray, List.set_cons_zero, List.set_cons_succ])))
  refine (cost_over1 s p u (.slice a n c) k m x y W7 h8 hk hm0 hm1 hx hfx hy hf ho).mono ?_
  rintro e w8 ⟨rfl, hb8⟩
  have HB8 := Lib.hid (HB7.out.trans (hb8.mono HB7.out.size))
  have B8 := B7.keep hb8 B7.lt
  have cu := (B8.cell (8 + k)).trans (bkc_p h8.out _ hk)
  rw [hx] at cu
  have hk0 : (0 : Int) ≤ k := by omega
  have hk8 : (k : Int) < 8 := by omega
  have hfine := Lib.hid (fun W => fine_yes (k : Int) m W hk0 hk8 hm0 hm1)
  clear hb8 B7
  go_upto_region 14 with (go_at_call 12; refine (hfine.out _).mono ?_; rintro e w' ⟨rfl, rfl⟩)
  have hmx : m * x = y := by rw [Int.mul_comm]; exact hy
  obtain ⟨hyl, hyu⟩ := (fits_iff y).1 hf
  have hmne : m ≠ 0 := by omega
  have hqz := Lib.hid (small_quo hy hmp hfx)
  have hx63 : ¬ x = -9223372036854775808 := pos_x hy hmp ho
  have e0 : (x == -9223372036854775808) = false := by rw [beq_eq_false_iff_ne]; exact hx63
  clear hx63
  have e1 := Lib.hid e0
  clear e0
  go_upto_region 15 with fail
  refine wp_region_still_lit (by kernel_rfl) (by kernel_rfl) ?_
  change wpStill _ _ (World.drew w8) (fun a' => Exit.then _ _ _ a' (World.drew w8)) _ _
  have cu' : w8.drew.cell? ⟨w.heap.size, 8 + k, none⟩ = _ := cu
  have HB9 := Lib.hid HB8.out.drew
  clear cu B8 hf hfx hy
  generalize w8.drew = w9 at *
  refine still_hide fun R' hR' => ?_
  repeat (first
    | ((with_reducible apply st_skip); (· rfl); (simp only [Act.put, List.setIfInBounds_toArray, List.set_cons_zero, List.set_cons_succ]))
    | ((with_reducible apply st_eqc); (· rfl); (· rfl); (· exact e1.out); (simp only [Act.put, List.setIfInBounds_toArray, List.set_cons_zero, List.set_cons_succ]))
    | ((with_reducible apply st_quo); (· rfl); (· rfl); (· rfl); (· exact hmne); (· exact hqz.out); (simp only [Act.put, List.setIfInBounds_toArray, List.set_cons_zero, List.set_cons_succ]))
    | still_step)
  refine wpStill_nil (hR' _ ?_)
  clear hR' R'
  go_wp2_with fail
  go_ret
  exact ⟨rfl, HB9.out⟩
set_option maxRecDepth 100000 in
set_option maxHeartbeats 2000000 in
theorem costs_over2_b (s p u : List Int) (a : Option Addr) (n c : Nat) (xs : List Value) (k : Nat) (m x y : Int) (w : World) (hbk : BookIn w s p u a n c xs) (hk : k < 8) (hm0 : 0 ≤ m) (hm1 : m ≤ 1099511627776) (hx : p.getD k 0 = x) (hfx : fits x = true) (hy : x * m = y) (hf : fits y = false) (hm31 : 1073741824 < m) :
    Calls Try.prog 4 #[.agg (bkc s p u (.slice a n c)).toArray, .int .i64 k, .int .i64 m] w fun e w' => e = .returned (.bool true) ∧ Below w.heap.size w w' := by
  have h8 := Lib.hid hbk.l8
  have HS := Lib.hid hbk.sl
  have HO := Lib.hid hbk.one
  have HFp := Lib.hid hbk.fp
  have hok := Lib.hid hbk.ok
  have o8s : Ok8 s := ok_ints 8 s h8.out.s8 hbk.fs
  have o8p : Ok8 p := ok_ints 8 p h8.out.p8 hbk.fp
  have o8u : Ok8 u := ok_ints 8 u h8.out.u8 hbk.fu
  have hn : n * 56 ≤ 140737488355328 := Nat.le_trans hbk.bytes (by decide)
  clear hbk
  have B1 := Blk.new w (bkc s p u (.slice a n c)).toArray 25
  rw [List.toList_toArray] at B1
  have hb1 := (Below.refl w.heap.size w).alloc (Nat.le_refl _) (.cells (bkc s p u (.slice a n c)).toArray 25)
  go_enter Try.func4, Try.ntmps4
  go_wp2_with fail
  refine (alive13 _).mono ?_
  rintro e w1 ⟨rfl, hba⟩
  have B2 := B1.keep hba B1.lt
  have HB := Lib.hid (hb1.trans (hba.mono (by simp)))
  have hl := B2.lt
  clear B1 hb1 hba
  go_wp2_with ((with_reducible apply bk_load); (· rfl); (· assumption); (· (first | assumption | (apply hset_u; assumption) | (apply hset_s; assumption) | (apply hset_p; assumption))); (simp only [Act.put, List.setIfInBounds_toArray, List.set_cons_zero, List.set_cons_succ]))
  have hi0 : (0 : Int) ≤ k := by omega
  have hi8 : (k : Int) < 8 := by omega
  obtain ⟨hxl, hxu⟩ := (fits_iff x).1 hfx
  have hpr : ¬ (0 ≤ (k : Int) ∧ (k : Int) < 8 ∧ 0 ≤ m ∧ m ≤ 1073741824) := by omega
  refine (price_bad s p u a n c k m w1 hpr).mono ?_
  rintro e w2 ⟨rfl, hb2⟩
  have hz8 := Lib.hid L8.zero
  have hs2 := hb2.size
  have B3 := (B2.keep hb2 hl).alloc (.cells (bkc zero8 zero8 zero8 (.slice none 0 0)).toArray 25)
  have HB3 := Lib.hid (below_al (HB.out.trans (hb2.mono HB.out.size)) (Nat.le_trans HB.out.size hs2) (.cells (bkc zero8 zero8 zero8 (.slice none 0 0)).toArray 25))
  have C3 := Blk.new w2 (bkc zero8 zero8 zero8 (.slice none 0 0)).toArray 25
  rw [List.toList_toArray] at C3
  have hlB := B3.lt
  have hlC := C3.lt
  clear hb2 B2 HB
  go_wp2_with (first
    | ((with_reducible apply bk_store_new); (· rfl); (· first | rfl | simp); (· rfl); (· rfl); (· (first | assumption | (apply hset_u; assumption) | (apply hset_s; assumption) | (apply hset_p; assumption))); (simp only [Act.put, List.setIfInBounds_toArray, List.set_cons_zero, List.set_cons_succ]))
    | ((with_reducible apply bk_load); (· rfl); (· (first | assumption | (apply Blk.alloc; assumption))); (· (first | assumption | (apply hset_u; assumption) | (apply hset_s; assumption) | (apply hset_p; assumption))); (simp only [Act.put, List.setIfInBounds_toArray, List.set_cons_zero, List.set_cons_succ]))
    | ((with_reducible apply bk_load_g); (· rfl); (· rfl); (· assumption); (· (first | assumption | (apply hset_u; assumption) | (apply hset_s; assumption) | (apply hset_p; assumption))); (simp only [Act.put, List.setIfInBounds_toArray, List.set_cons_zero, List.set_cons_succ])))
  refine (pbook_zero _).mono ?_
  rintro e W7 ⟨rfl, hb7⟩
  have B7 := B3.keep hb7 hlB
  have HB7 := Lib.hid (HB3.out.trans (hb7.mono HB3.out.size))
  clear hb7 B3 C3 HB3
  go_wp2_with (first
    | ((with_reducible apply bk_load); (· rfl); (· assumption); (· (first | assumption | (apply hset_u; assumption) | (apply hset_s; assumption) | (apply hset_p; assumption))); (simp only [Act.put, List.setIfInBounds_toArray, List.set_cons_zero, List.set_cons_succ]))
    | ((with_reducible apply bk_load_g); (· rfl); (· rfl); (· assumption); (· (first | assumption | (apply hset_u; assumption) | (apply hset_s; assumption) | (apply hset_p; assumption))); (simp only [Act.put, List.setIfInBounds_toArray, List.set_cons_zero, List.set_cons_succ])))
  refine (cost_over2 s p u (.slice a n c) k m x y W7 h8 hk hm0 hm1 hx hfx hy hf).mono ?_
  rintro e w8 ⟨rfl, hb8⟩
  have HB8 := Lib.hid (HB7.out.trans (hb8.mono HB7.out.size))
  have B8 := B7.keep hb8 B7.lt
  have cu := (B8.cell (8 + k)).trans (bkc_p h8.out _ hk)
  rw [hx] at cu
  have hk0 : (0 : Int) ≤ k := by omega
  have hk8 : (k : Int) < 8 := by omega
  have hfine := Lib.hid (fun W => fine_yes (k : Int) m W hk0 hk8 hm0 hm1)
  clear hb8 B7
  go_upto_region 14 with (go_at_call 12; refine (hfine.out _).mono ?_; rintro e w' ⟨rfl, rfl⟩)
  have hmx : m * x = y := by rw [Int.mul_comm]; exact hy
  have hmp : 1 < m := big_pos hy hfx hf hm0
  have hmp0 : 0 < m := by omega
  have hmne : m ≠ 0 := by omega
  have hne := big_quo hy hf rfl hmp hm1
  obtain ⟨Z, hqz⟩ : ∃ Z, IntKind.i64.wrap ((wrap64 y).tdiv m) = Z := ⟨_, rfl⟩
  rw [hqz] at hne
  have hqz0 := hqz
  clear hqz
  have hqz := Lib.hid hqz0
  clear hqz0
  by_cases hx63 : x = -9223372036854775808
  · skip
    have e0 : (x == -9223372036854775808) = true := by rw [beq_iff_eq]; exact hx63
    go_upto_region 15 with fail
    clear B8 hf hfx hy
    go_quiet (fail)
    go_wp2_with fail
    go_ret
    exact ⟨rfl, HB8.out.trans (Go.Joins.below_draws _ _ _)⟩
  · skip
    have e0 : (x == -9223372036854775808) = false := by rw [beq_eq_false_iff_ne]; exact hx63
    clear hx63
    have e1 := Lib.hid e0
    clear e0
    go_upto_region 15 with fail
    refine wp_region_still_lit (by kernel_rfl) (by kernel_rfl) ?_
    change wpStill _ _ (World.drew w8) (fun a' => Exit.then _ _ _ a' (World.drew w8)) _ _
    have cu' : w8.drew.cell? ⟨w.heap.size, 8 + k, none⟩ = _ := cu
    have HB9 := Lib.hid HB8.out.drew
    clear cu B8 hf hfx hy
    generalize w8.drew = w9 at *
    refine still_hide fun R' hR' => ?_
    repeat (first
      | ((with_reducible apply st_skip); (· rfl); (simp only [Act.put, List.setIfInBounds_toArray, List.set_cons_zero, List.set_cons_succ]))
      | ((with_reducible apply st_eqc); (· rfl); (· rfl); (· exact e1.out); (simp only [Act.put, List.setIfInBounds_toArray, List.set_cons_zero, List.set_cons_succ]))
      | ((with_reducible apply st_quo); (· rfl); (· rfl); (· rfl); (· exact hmne); (· exact hqz.out); (simp only [Act.put, List.setIfInBounds_toArray, List.set_cons_zero, List.set_cons_succ]))
      | still_step)
    refine wpStill_nil (hR' _ ?_)
    clear hR' R'
    go_wp2_with fail
    go_ret
    exact ⟨rfl, HB9.out⟩
set_option maxRecDepth 100000 in
set_option maxHeartbeats 2000000 in
theorem costs_bad1 (s p u : List Int) (a : Option Addr) (n c : Nat) (xs : List Value) (i m : Int) (w : World) (hbk : BookIn w s p u a n c xs) (hr : ¬ (0 ≤ i ∧ i < 8 ∧ 0 ≤ m ∧ m ≤ 1099511627776)) (q0 : 0 ≤ i) (q1 : i < 8) (q2 : 0 ≤ m) (q3 : 1099511627776 < m) :
    Calls Try.prog 4 #[.agg (bkc s p u (.slice a n c)).toArray, .int .i64 i, .int .i64 m] w fun e w' => e = .returned (.bool true) ∧ Below w.heap.size w w' := by
  have h8 := Lib.hid hbk.l8
  have HS := Lib.hid hbk.sl
  have HO := Lib.hid hbk.one
  have HFp := Lib.hid hbk.fp
  have hok := Lib.hid hbk.ok
  have o8s : Ok8 s := ok_ints 8 s h8.out.s8 hbk.fs
  have o8p : Ok8 p := ok_ints 8 p h8.out.p8 hbk.fp
  have o8u : Ok8 u := ok_ints 8 u h8.out.u8 hbk.fu
  have hn : n * 56 ≤ 140737488355328 := Nat.le_trans hbk.bytes (by decide)
  clear hbk
  have B1 := Blk.new w (bkc s p u (.slice a n c)).toArray 25
  rw [List.toList_toArray] at B1
  have hb1 := (Below.refl w.heap.size w).alloc (Nat.le_refl _) (.cells (bkc s p u (.slice a n c)).toArray 25)
  go_enter Try.func4, Try.ntmps4
  go_wp2_with fail
  refine (alive13 _).mono ?_
  rintro e w1 ⟨rfl, hba⟩
  have B2 := B1.keep hba B1.lt
  have HB := Lib.hid (hb1.trans (hba.mono (by simp)))
  have hl := B2.lt
  clear B1 hb1 hba
  go_wp2_with ((with_reducible apply bk_load); (· rfl); (· assumption); (· (first | assumption | (apply hset_u; assumption) | (apply hset_s; assumption) | (apply hset_p; assumption))); (simp only [Act.put, List.setIfInBounds_toArray, List.set_cons_zero, List.set_cons_succ]))
  have hpr : ¬ (0 ≤ i ∧ i < 8 ∧ 0 ≤ m ∧ m ≤ 1073741824) := by omega
  have q4 : 1073741824 < m := by omega
  refine (price_bad s p u a n c i m w1 hpr).mono ?_
  rintro e w2 ⟨rfl, hb2⟩
  have hz8 := Lib.hid L8.zero
  have hs2 := hb2.size
  have B3 := (B2.keep hb2 hl).alloc (.cells (bkc zero8 zero8 zero8 (.slice none 0 0)).toArray 25)
  have HB3 := Lib.hid (below_al (HB.out.trans (hb2.mono HB.out.size)) (Nat.le_trans HB.out.size hs2) (.cells (bkc zero8 zero8 zero8 (.slice none 0 0)).toArray 25))
  have C3 := Blk.new w2 (bkc zero8 zero8 zero8 (.slice none 0 0)).toArray 25
  rw [List.toList_toArray] at C3
  have hlB := B3.lt
  have hlC := C3.lt
  clear hb2 B2 HB
  go_wp2_with (first
    | ((with_reducible apply bk_store_new); (· rfl); (· first | rfl | simp); (· rfl); (· rfl); (· (first | assumption | (apply hset_u; assumption) | (apply hset_s; assumption) | (apply hset_p; assumption))); (simp only [Act.put, List.setIfInBounds_toArray, List.set_cons_zero, List.set_cons_succ]))
    | ((with_reducible apply bk_load); (· rfl); (· (first | assumption | (apply Blk.alloc; assumption))); (· (first | assumption | (apply hset_u; assumption) | (apply hset_s; assumption) | (apply hset_p; assumption))); (simp only [Act.put, List.setIfInBounds_toArray, List.set_cons_zero, List.set_cons_succ]))
    | ((with_reducible apply bk_load_g); (· rfl); (· rfl); (· assumption); (· (first | assumption | (apply hset_u; assumption) | (apply hset_s; assumption) | (apply hset_p; assumption))); (simp only [Act.put, List.setIfInBounds_toArray, List.set_cons_zero, List.set_cons_succ])))
  refine (pbook_zero _).mono ?_
  rintro e W7 ⟨rfl, hb7⟩
  have B7 := B3.keep hb7 hlB
  have HB7 := Lib.hid (HB3.out.trans (hb7.mono HB3.out.size))
  clear hb7 B3 C3 HB3
  go_wp2_with (first
    | ((with_reducible apply bk_load); (· rfl); (· assumption); (· (first | assumption | (apply hset_u; assumption) | (apply hset_s; assumption) | (apply hset_p; assumption))); (simp only [Act.put, List.setIfInBounds_toArray, List.set_cons_zero, List.set_cons_succ]))
    | ((with_reducible apply bk_load_g); (· rfl); (· rfl); (· assumption); (· (first | assumption | (apply hset_u; assumption) | (apply hset_s; assumption) | (apply hset_p; assumption))); (simp only [Act.put, List.setIfInBounds_toArray, List.set_cons_zero, List.set_cons_succ])))
  refine (cost_bad s p u (.slice a n c) i m W7 hr).mono ?_
  rintro e w8 ⟨rfl, hb8⟩
  have HB8 := Lib.hid (HB7.out.trans (hb8.mono HB7.out.size))
  have hfine := Lib.hid (fun W => fine_no i m W hr)
  clear hb8 B7 hr hpr
  go_wp2_with (go_at_call 12; refine (hfine.out _).mono ?_; rintro e w' ⟨rfl, rfl⟩)
  go_ret
  exact ⟨rfl, HB8.out⟩
set_option maxRecDepth 100000 in
set_option maxHeartbeats 2000000 in
theorem costs_bad2 (s p u : List Int) (a : Option Addr) (n c : Nat) (xs : List Value) (i m : Int) (w : World) (hbk : BookIn w s p u a n c xs) (hr : ¬ (0 ≤ i ∧ i < 8 ∧ 0 ≤ m ∧ m ≤ 1099511627776)) (q0 : 0 ≤ i) (q1 : i < 8) (q2 : m < 0) :
    Calls Try.prog 4 #[.agg (bkc s p u (.slice a n c)).toArray, .int .i64 i, .int .i64 m] w fun e w' => e = .returned (.bool true) ∧ Below w.heap.size w w' := by
  have h8 := Lib.hid hbk.l8
  have HS := Lib.hid hbk.sl
  have HO := Lib.hid hbk.one
  have HFp := Lib.hid hbk.fp
  have hok := Lib.hid hbk.ok
  have o8s : Ok8 s := ok_ints 8 s h8.out.s8 hbk.fs
  have o8p : Ok8 p := ok_ints 8 p h8.out.p8 hbk.fp
  have o8u : Ok8 u := ok_ints 8 u h8.out.u8 hbk.fu
  have hn : n * 56 ≤ 140737488355328 := Nat.le_trans hbk.bytes (by decide)
  clear hbk
  have B1 := Blk.new w (bkc s p u (.slice a n c)).toArray 25
  rw [List.toList_toArray] at B1
  have hb1 := (Below.refl w.heap.size w).alloc (Nat.le_refl _) (.cells (bkc s p u (.slice a n c)).toArray 25)
  go_enter Try.func4, Try.ntmps4
  go_wp2_with fail
  refine (alive13 _).mono ?_
  rintro e w1 ⟨rfl, hba⟩
  have B2 := B1.keep hba B1.lt
  have HB := Lib.hid (hb1.trans (hba.mono (by simp)))
  have hl := B2.lt
  clear B1 hb1 hba
  go_wp2_with ((with_reducible apply bk_load); (· rfl); (· assumption); (· (first | assumption | (apply hset_u; assumption) | (apply hset_s; assumption) | (apply hset_p; assumption))); (simp only [Act.put, List.setIfInBounds_toArray, List.set_cons_zero, List.set_cons_succ]))
  have hpr : ¬ (0 ≤ i ∧ i < 8 ∧ 0 ≤ m ∧ m ≤ 1073741824) := by omega
  refine (price_bad s p u a n c i m w1 hpr).mono ?_
  rintro e w2 ⟨rfl, hb2⟩
  have hz8 := Lib.hid L8.zero
  have hs2 := hb2.size
  have B3 := (B2.keep hb2 hl).alloc (.cells (bkc zero8 zero8 zero8 (.slice none 0 0)).toArray 25)
  have HB3 := Lib.hid (below_al (HB.out.trans (hb2.mono HB.out.size)) (Nat.le_trans HB.out.size hs2) (.cells (bkc zero8 zero8 zero8 (.slice none 0 0)).toArray 25))
  have C3 := Blk.new w2 (bkc zero8 zero8 zero8 (.slice none 0 0)).toArray 25
  rw [List.toList_toArray] at C3
  have hlB := B3.lt
  have hlC := C3.lt
  clear hb2 B2 HB
  go_wp2_with (first
    | ((with_reducible apply bk_store_new); (· rfl); (· first | rfl | simp); (· rfl); (· rfl); (· (first | assumption | (apply hset_u; assumption) | (apply hset_s; assumption) | (apply hset_p; assumption))); (simp only [Act.put, List.setIfInBounds_toArray, List.set_cons_zero, List.set_cons_succ]))
    | ((with_reducible apply bk_load); (· rfl); (· (first | assumption | (apply Blk.alloc; assumption))); (· (first | assumption | (apply hset_u; assumption) | (apply hset_s; assumption) | (apply hset_p; assumption))); (simp only [Act.put, List.setIfInBounds_toArray, List.set_cons_zero, List.set_cons_succ]))
    | ((with_reducible apply bk_load_g); (· rfl); (· rfl); (· assumption); (· (first | assumption | (apply hset_u; assumption) | (apply hset_s; assumption) | (apply hset_p; assumption))); (simp only [Act.put, List.setIfInBounds_toArray, List.set_cons_zero, List.set_cons_succ])))
  refine (pbook_zero _).mono ?_
  rintro e W7 ⟨rfl, hb7⟩
  have B7 := B3.keep hb7 hlB
  have HB7 := Lib.hid (HB3.out.trans (hb7.mono HB3.out.size))
  clear hb7 B3 C3 HB3
  go_wp2_with (first
    | ((with_reducible apply bk_load); (· rfl); (· assumption); (· (first | assumption | (apply hset_u; assumption) | (apply hset_s; assumption) | (apply hset_p; assumption))); (simp only [Act.put, List.setIfInBounds_toArray, List.set_cons_zero, List.set_cons_succ]))
    | ((with_reducible apply bk_load_g); (· rfl); (· rfl); (· assumption); (· (first | assumption | (apply hset_u; assumption) | (apply hset_s; assumption) | (apply hset_p; assumption))); (simp only [Act.put, List.setIfInBounds_toArray, List.set_cons_zero, List.set_cons_succ])))
  refine (cost_bad s p u (.slice a n c) i m W7 hr).mono ?_
  rintro e w8 ⟨rfl, hb8⟩
  have HB8 := Lib.hid (HB7.out.trans (hb8.mono HB7.out.size))
  have hfine := Lib.hid (fun W => fine_no i m W hr)
  clear hb8 B7 hr hpr
  go_wp2_with (go_at_call 12; refine (hfine.out _).mono ?_; rintro e w' ⟨rfl, rfl⟩)
  go_ret
  exact ⟨rfl, HB8.out⟩
set_option maxRecDepth 100000 in
set_option maxHeartbeats 2000000 in
theorem costs_bad3 (s p u : List Int) (a : Option Addr) (n c : Nat) (xs : List Value) (i m : Int) (w : World) (hbk : BookIn w s p u a n c xs) (hr : ¬ (0 ≤ i ∧ i < 8 ∧ 0 ≤ m ∧ m ≤ 1099511627776)) (q0 : 0 ≤ i) (q1 : 7 < i) :
    Calls Try.prog 4 #[.agg (bkc s p u (.slice a n c)).toArray, .int .i64 i, .int .i64 m] w fun e w' => e = .returned (.bool true) ∧ Below w.heap.size w w' := by
  have h8 := Lib.hid hbk.l8
  have HS := Lib.hid hbk.sl
  have HO := Lib.hid hbk.one
  have HFp := Lib.hid hbk.fp
  have hok := Lib.hid hbk.ok
  have o8s : Ok8 s := ok_ints 8 s h8.out.s8 hbk.fs
  have o8p : Ok8 p := ok_ints 8 p h8.out.p8 hbk.fp
  have o8u : Ok8 u := ok_ints 8 u h8.out.u8 hbk.fu
  have hn : n * 56 ≤ 140737488355328 := Nat.le_trans hbk.bytes (by decide)
  clear hbk
  have B1 := Blk.new w (bkc s p u (.slice a n c)).toArray 25
  rw [List.toList_toArray] at B1
  have hb1 := (Below.refl w.heap.size w).alloc (Nat.le_refl _) (.cells (bkc s p u (.slice a n c)).toArray 25)
  go_enter Try.func4, Try.ntmps4
  go_wp2_with fail
  refine (alive13 _).mono ?_
  rintro e w1 ⟨rfl, hba⟩
  have B2 := B1.keep hba B1.lt
  have HB := Lib.hid (hb1.trans (hba.mono (by simp)))
  have hl := B2.lt
  clear B1 hb1 hba
  go_wp2_with ((with_reducible apply bk_load); (· rfl); (· assumption); (· (first | assumption | (apply hset_u; assumption) | (apply hset_s; assumption) | (apply hset_p; assumption))); (simp only [Act.put, List.setIfInBounds_toArray, List.set_cons_zero, List.set_cons_succ]))
  have hpr : ¬ (0 ≤ i ∧ i < 8 ∧ 0 ≤ m ∧ m ≤ 1073741824) := by omega
  refine (price_bad s p u a n c i m w1 hpr).mono ?_
  rintro e w2 ⟨rfl, hb2⟩
  have hz8 := Lib.hid L8.zero
  have hs2 := hb2.size
  have B3 := (B2.keep hb2 hl).alloc (.cells (bkc zero8 zero8 zero8 (.slice none 0 0)).toArray 25)
  have HB3 := Lib.hid (below_al (HB.out.trans (hb2.mono HB.out.size)) (Nat.le_trans HB.out.size hs2) (.cells (bkc zero8 zero8 zero8 (.slice none 0 0)).toArray 25))
  have C3 := Blk.new w2 (bkc zero8 zero8 zero8 (.slice none 0 0)).toArray 25
  rw [List.toList_toArray] at C3
  have hlB := B3.lt
  have hlC := C3.lt
  clear hb2 B2 HB
  go_wp2_with (first
    | ((with_reducible apply bk_store_new); (· rfl); (· first | rfl | simp); (· rfl); (· rfl); (· (first | assumption | (apply hset_u; assumption) | (apply hset_s; assumption) | (apply hset_p; assumption))); (simp only [Act.put, List.setIfInBounds_toArray, List.set_cons_zero, List.set_cons_succ]))
    | ((with_reducible apply bk_load); (· rfl); (· (first | assumption | (apply Blk.alloc; assumption))); (· (first | assumption | (apply hset_u; assumption) | (apply hset_s; assumption) | (apply hset_p; assumption))); (simp only [Act.put, List.setIfInBounds_toArray, List.set_cons_zero, List.set_cons_succ]))
    | ((with_reducible apply bk_load_g); (· rfl); (· rfl); (· assumption); (· (first | assumption | (apply hset_u; assumption) | (apply hset_s; assumption) | (apply hset_p; assumption))); (simp only [Act.put, List.setIfInBounds_toArray, List.set_cons_zero, List.set_cons_succ])))
  refine (pbook_zero _).mono ?_
  rintro e W7 ⟨rfl, hb7⟩
  have B7 := B3.keep hb7 hlB
  have HB7 := Lib.hid (HB3.out.trans (hb7.mono HB3.out.size))
  clear hb7 B3 C3 HB3
  go_wp2_with (first
    | ((with_reducible apply bk_load); (· rfl); (· assumption); (· (first | assumption | (apply hset_u; assumption) | (apply hset_s; assumption) | (apply hset_p; assumption))); (simp only [Act.put, List.setIfInBounds_toArray, List.set_cons_zero, List.set_cons_succ]))
    | ((with_reducible apply bk_load_g); (· rfl); (· rfl); (· assumption); (· (first | assumption | (apply hset_u; assumption) | (apply hset_s; assumption) | (apply hset_p; assumption))); (simp only [Act.put, List.setIfInBounds_toArray, List.set_cons_zero, List.set_cons_succ])))
  refine (cost_bad s p u (.slice a n c) i m W7 hr).mono ?_
  rintro e w8 ⟨rfl, hb8⟩
  have HB8 := Lib.hid (HB7.out.trans (hb8.mono HB7.out.size))
  have hfine := Lib.hid (fun W => fine_no i m W hr)
  clear hb8 B7 hr hpr
  go_wp2_with (go_at_call 12; refine (hfine.out _).mono ?_; rintro e w' ⟨rfl, rfl⟩)
  go_ret
  exact ⟨rfl, HB8.out⟩
set_option maxRecDepth 100000 in
set_option maxHeartbeats 2000000 in
theorem costs_bad4 (s p u : List Int) (a : Option Addr) (n c : Nat) (xs : List Value) (i m : Int) (w : World) (hbk : BookIn w s p u a n c xs) (hr : ¬ (0 ≤ i ∧ i < 8 ∧ 0 ≤ m ∧ m ≤ 1099511627776)) (q0 : i < 0) :
    Calls Try.prog 4 #[.agg (bkc s p u (.slice a n c)).toArray, .int .i64 i, .int .i64 m] w fun e w' => e = .returned (.bool true) ∧ Below w.heap.size w w' := by
  have h8 := Lib.hid hbk.l8
  have HS := Lib.hid hbk.sl
  have HO := Lib.hid hbk.one
  have HFp := Lib.hid hbk.fp
  have hok := Lib.hid hbk.ok
  have o8s : Ok8 s := ok_ints 8 s h8.out.s8 hbk.fs
  have o8p : Ok8 p := ok_ints 8 p h8.out.p8 hbk.fp
  have o8u : Ok8 u := ok_ints 8 u h8.out.u8 hbk.fu
  have hn : n * 56 ≤ 140737488355328 := Nat.le_trans hbk.bytes (by decide)
  clear hbk
  have B1 := Blk.new w (bkc s p u (.slice a n c)).toArray 25
  rw [List.toList_toArray] at B1
  have hb1 := (Below.refl w.heap.size w).alloc (Nat.le_refl _) (.cells (bkc s p u (.slice a n c)).toArray 25)
  go_enter Try.func4, Try.ntmps4
  go_wp2_with fail
  refine (alive13 _).mono ?_
  rintro e w1 ⟨rfl, hba⟩
  have B2 := B1.keep hba B1.lt
  have HB := Lib.hid (hb1.trans (hba.mono (by simp)))
  have hl := B2.lt
  clear B1 hb1 hba
  go_wp2_with ((with_reducible apply bk_load); (· rfl); (· assumption); (· (first | assumption | (apply hset_u; assumption) | (apply hset_s; assumption) | (apply hset_p; assumption))); (simp only [Act.put, List.setIfInBounds_toArray, List.set_cons_zero, List.set_cons_succ]))
  have hpr : ¬ (0 ≤ i ∧ i < 8 ∧ 0 ≤ m ∧ m ≤ 1073741824) := by omega
  refine (price_bad s p u a n c i m w1 hpr).mono ?_
  rintro e w2 ⟨rfl, hb2⟩
  have hz8 := Lib.hid L8.zero
  have hs2 := hb2.size
  have B3 := (B2.keep hb2 hl).alloc (.cells (bkc zero8 zero8 zero8 (.slice none 0 0)).toArray 25)
  have HB3 := Lib.hid (below_al (HB.out.trans (hb2.mono HB.out.size)) (Nat.le_trans HB.out.size hs2) (.cells (bkc zero8 zero8 zero8 (.slice none 0 0)).toArray 25))
  have C3 := Blk.new w2 (bkc zero8 zero8 zero8 (.slice none 0 0)).toArray 25
  rw [List.toList_toArray] at C3
  have hlB := B3.lt
  have hlC := C3.lt
  clear hb2 B2 HB
  go_wp2_with (first
    | ((with_reducible apply bk_store_new); (· rfl); (· first | rfl | simp); (· rfl); (· rfl); (· (first | assumption | (apply hset_u; assumption) | (apply hset_s; assumption) | (apply hset_p; assumption))); (simp only [Act.put, List.setIfInBounds_toArray, List.set_cons_zero, List.set_cons_succ]))
    | ((with_reducible apply bk_load); (· rfl); (· (first | assumption | (apply Blk.alloc; assumption))); (· (first | assumption | (apply hset_u; assumption) | (apply hset_s; assumption) | (apply hset_p; assumption))); (simp only [Act.put, List.setIfInBounds_toArray, List.set_cons_zero, List.set_cons_succ]))
    | ((with_reducible apply bk_load_g); (· rfl); (· rfl); (· assumption); (· (first | assumption | (apply hset_u; assumption) | (apply hset_s; assumption) | (apply hset_p; assumption))); (simp only [Act.put, List.setIfInBounds_toArray, List.set_cons_zero, List.set_cons_succ])))
  refine (pbook_zero _).mono ?_
  rintro e W7 ⟨rfl, hb7⟩
  have B7 := B3.keep hb7 hlB
  have HB7 := Lib.hid (HB3.out.trans (hb7.mono HB3.out.size))
  clear hb7 B3 C3 HB3
  go_wp2_with (first
    | ((with_reducible apply bk_load); (· rfl); (· assumption); (· (first | assumption | (apply hset_u; assumption) | (apply hset_s; assumption) | (apply hset_p; assumption))); (simp only [Act.put, List.setIfInBounds_toArray, List.set_cons_zero, List.set_cons_succ]))
    | ((with_reducible apply bk_load_g); (· rfl); (· rfl); (· assumption); (· (first | assumption | (apply hset_u; assumption) | (apply hset_s; assumption) | (apply hset_p; assumption))); (simp only [Act.put, List.setIfInBounds_toArray, List.set_cons_zero, List.set_cons_succ])))
  refine (cost_bad s p u (.slice a n c) i m W7 hr).mono ?_
  rintro e w8 ⟨rfl, hb8⟩
  have HB8 := Lib.hid (HB7.out.trans (hb8.mono HB7.out.size))
  have hfine := Lib.hid (fun W => fine_no i m W hr)
  clear hb8 B7 hr hpr
  go_wp2_with (go_at_call 12; refine (hfine.out _).mono ?_; rintro e w' ⟨rfl, rfl⟩)
  go_ret
  exact ⟨rfl, HB8.out⟩
set_option maxRecDepth 100000 in
set_option maxHeartbeats 2000000 in
theorem costs_zero (s p u : List Int) (a : Option Addr) (n c : Nat) (xs : List Value) (k : Nat) (x : Int) (w : World) (hbk : BookIn w s p u a n c xs) (hk : k < 8) (hm0 : (0 : Int) ≤ 0) (hm1 : (0 : Int) ≤ 1099511627776) (hx : p.getD k 0 = x) (hfx : fits x = true) (hy : x * 0 = 0) (hf : fits 0 = true) (ho : (0 : Int) ≤ 1099511627776) (hm30 : (0 : Int) ≤ 1073741824) :
    Calls Try.prog 4 #[.agg (bkc s p u (.slice a n c)).toArray, .int .i64 k, .int .i64 0] w fun e w' => e = .returned (.bool true) ∧ Below w.heap.size w w' := by
  have h8 := Lib.hid hbk.l8
  have HS := Lib.hid hbk.sl
  have HO := Lib.hid hbk.one
  have HFp := Lib.hid hbk.fp
  have hok := Lib.hid hbk.ok
  have o8s : Ok8 s := ok_ints 8 s h8.out.s8 hbk.fs
  have o8p : Ok8 p := ok_ints 8 p h8.out.p8 hbk.fp
  have o8u : Ok8 u := ok_ints 8 u h8.out.u8 hbk.fu
  have hn : n * 56 ≤ 140737488355328 := Nat.le_trans hbk.bytes (by decide)
  clear hbk
  have B1 := Blk.new w (bkc s p u (.slice a n c)).toArray 25
  rw [List.toList_toArray] at B1
  have hb1 := (Below.refl w.heap.size w).alloc (Nat.le_refl _) (.cells (bkc s p u (.slice a n c)).toArray 25)
  go_enter Try.func4, Try.ntmps4
  go_wp2_with fail
  refine (alive13 _).mono ?_
  rintro e w1 ⟨rfl, hba⟩
  have B2 := B1.keep hba B1.lt
  have HB := Lib.hid (hb1.trans (hba.mono (by simp)))
  have hl := B2.lt
  clear B1 hb1 hba
  go_wp2_with ((with_reducible apply bk_load); (· rfl); (· assumption); (· (first | assumption | (apply hset_u; assumption) | (apply hset_s; assumption) | (apply hset_p; assumption))); (simp only [Act.put, List.setIfInBounds_toArray, List.set_cons_zero, List.set_cons_succ]))
  have hi0 : (0 : Int) ≤ k := by omega
  have hi8 : (k : Int) < 8 := by omega
  refine (price_ok s p u a n c k xs 0 w1 h8 (HS.out.keep HB.out) HO.out hn hk hm0 hm30).mono ?_
  rintro e w2 ⟨va, vc, rfl, ho2, hb2⟩
  have h8g := hset_p h8 k 0
  have hs2 := hb2.size
  have B3 := (B2.keep hb2 hl).alloc (.cells (bkc s (p.set k 0) u (.slice va n vc)).toArray 25)
  have HB3 := Lib.hid (below_al (HB.out.trans (hb2.mono HB.out.size)) (Nat.le_trans HB.out.size hs2) (.cells (bkc s (p.set k 0) u (.slice va n vc)).toArray 25))
  have C3 := Blk.new w2 (bkc s (p.set k 0) u (.slice va n vc)).toArray 25
  rw [List.toList_toArray] at C3
  have hlB := B3.lt
  have hlC := C3.lt
  have HO3 := Lib.hid (own_alloc ho2 (.cells (bkc s (p.set k 0) u (.slice va n vc)).toArray 25))
  clear ho2
  clear hb2 B2 HB
  go_upto_region 4 with (first
    | ((with_reducible apply bk_store_new); (· rfl); (· first | rfl | simp); (· rfl); (· rfl); (· (first | assumption | (apply hset_u; assumption) | (apply hset_s; assumption) | (apply hset_p; assumption))); (simp only [Act.put, List.setIfInBounds_toArray, List.set_cons_zero, List.set_cons_succ]))
    | ((with_reducible apply bk_load); (· rfl); (· (first | assumption | (apply Blk.alloc; assumption))); (· (first | assumption | (apply hset_u; assumption) | (apply hset_s; assumption) | (apply hset_p; assumption))); (simp only [Act.put, List.setIfInBounds_toArray, List.set_cons_zero, List.set_cons_succ])))
  generalize hg3 : w2.heap.size = g3 at *
  generalize w2.alloc (.cells (bkc s (p.set k 0) u (.slice va n vc)).toArray 25) = W3 at *
  have B4 := B3.alloc (.cells (bkc s p u (.slice a n c)).toArray 25)
  have C4 := C3.alloc (.cells (bkc s p u (.slice a n c)).toArray 25)
  have E4 := Blk.new W3 (bkc s p u (.slice a n c)).toArray 25
  rw [List.toList_toArray] at E4
  have hsz3 := HB3.out.size
  have HB4 := Lib.hid (below_al HB3.out hsz3 (.cells (bkc s p u (.slice a n c)).toArray 25))
  have HV4 := Lib.hid ((Below.refl W3.heap.size W3).alloc (Nat.le_refl _) (.cells (bkc s p u (.slice a n c)).toArray 25))
  have slx3 := Lib.hid (sl_of_own HO3.out)
  have hne5 : w.heap.size ≠ W3.heap.size := by omega
  have hne35 : g3 ≠ W3.heap.size := by omega
  go_upto_region 8 with (first
    | ((with_reducible apply bk_store_new); (· rfl); (· first | rfl | simp); (· rfl); (· rfl); (· (first | assumption | (apply hset_u; assumption) | (apply hset_s; assumption) | (apply hset_p; assumption))); (simp only [Act.put, List.setIfInBounds_toArray, List.set_cons_zero, List.set_cons_succ]))
    | ((with_reducible apply bk_load); (· rfl); (· (first | assumption | (apply Blk.alloc; assumption))); (· (first | assumption | (apply hset_u; assumption) | (apply hset_s; assumption) | (apply hset_p; assumption))); (simp only [Act.put, List.setIfInBounds_toArray, List.set_cons_zero, List.set_cons_succ])))
  clear B3 C3
  generalize hg5e : W3.heap.size = g5 at *
  generalize W3.alloc (.cells (bkc s p u (.slice a n c)).toArray 25) = W5 at *
  have cw5 := (E4.cell (8 + k)).trans (bkc_p h8.out _ hk)
  have fw5 := E4.froz (8 + k)
  have hk0 : (0 : Int) ≤ k := by omega
  have hk8 : (k : Int) < 8 := by omega
  have E6 := E4.set (8 + k) (.int .i64 0)
  rw [bkc_set_p h8.out _ hk] at E6
  have B6 := B4.set_other hne5 (8 + k) (.int .i64 0)
  have C6 := C4.set_other hne35 (8 + k) (.int .i64 0)
  have HB6 := Lib.hid (below_set HB4.out (by omega : w.heap.size ≤ g5) (8 + k) (.int .i64 0))
  have HV6 := Lib.hid (below_set HV4.out (Nat.le_refl g5) (8 + k) (.int .i64 0))
  have hfm : fits 0 = true := rfl
  have o8x := ok8_set h8.out.p8 HFp.out k 0 hfm
  clear B4 C4 E4 HB4 HV4
  go_wp2_with (first
    | ((with_reducible apply bk_load); (· rfl); (· assumption); (· (first | assumption | (apply hset_u; assumption) | (apply hset_s; assumption) | (apply hset_p; assumption))); (simp only [Act.put, List.setIfInBounds_toArray, List.set_cons_zero, List.set_cons_succ]))
    | ((with_reducible apply bk_load_g); (· rfl); (· rfl); (· assumption); (· (first | assumption | (apply hset_u; assumption) | (apply hset_s; assumption) | (apply hset_p; assumption))); (simp only [Act.put, List.setIfInBounds_toArray, List.set_cons_zero, List.set_cons_succ])))
  refine (pbook_true s (p.set k 0) u va a n vc c xs _ h8g o8s o8x o8u (Lib.hid (slx3.out.keep (by rw [hg5e]; exact HV6.out))) (Lib.hid (HS.out.keep HB6.out)) hok hn).mono ?_
  rintro e W7 ⟨rfl, hb7⟩
  have B7 := B6.keep hb7 B6.lt
  have HB7 := Lib.hid (HB6.out.trans (hb7.mono HB6.out.size))
  clear hb7 B6 C6 E6 HB6 HV6 cw5 fw5
  go_wp2_with (first
    | ((with_reducible apply bk_load); (· rfl); (· assumption); (· (first | assumption | (apply hset_u; assumption) | (apply hset_s; assumption) | (apply hset_p; assumption))); (simp only [Act.put, List.setIfInBounds_toArray, List.set_cons_zero, List.set_cons_succ]))
    | ((with_reducible apply bk_load_g); (· rfl); (· rfl); (· assumption); (· (first | assumption | (apply hset_u; assumption) | (apply hset_s; assumption) | (apply hset_p; assumption))); (simp only [Act.put, List.setIfInBounds_toArray, List.set_cons_zero, List.set_cons_succ])))
  refine (cost_ok s p u (.slice a n c) k 0 x 0 W7 h8 hk hm0 hm1 hx hfx hy hf ho).mono ?_
  rintro e w8 ⟨rfl, hb8⟩
  have HB8 := Lib.hid (HB7.out.trans (hb8.mono HB7.out.size))
  have B8 := B7.keep hb8 B7.lt
  have cu := (B8.cell (8 + k)).trans (bkc_p h8.out _ hk)
  rw [hx] at cu
  have hfine := Lib.hid (fun W => fine_yes (k : Int) 0 W hk0 hk8 hm0 hm1)
  clear hb8 B7
  go_upto_region 14 with (go_at_call 12; refine (hfine.out _).mono ?_; rintro e w' ⟨rfl, rfl⟩)
  skip
  by_cases hx63 : x = -9223372036854775808
  · skip
    have e0 : (x == -9223372036854775808) = true := by rw [beq_iff_eq]; exact hx63
    go_upto_region 15 with fail
    clear B8 hf hfx hy
    go_quiet (fail)
    go_wp2_with fail
    go_ret
    exact ⟨rfl, HB8.out.trans (Go.Joins.below_draws _ _ _)⟩
  · skip
    have e0 : (x == -9223372036854775808) = false := by rw [beq_eq_false_iff_ne]; exact hx63
    go_upto_region 15 with fail
    clear B8 hf hfx hy
    go_quiet (fail)
    go_wp2_with fail
    go_ret
    exact ⟨rfl, HB8.out.trans (Go.Joins.below_draws _ _ _)⟩
end Go.Proofs.Ytdphejjiiogikaa
