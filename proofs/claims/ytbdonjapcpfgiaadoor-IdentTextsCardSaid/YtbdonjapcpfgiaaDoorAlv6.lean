/- Something lives: names. -/
import Derived.Test.YtbdonjapcpfgiaaDoorPar6
import Derived.Test.YtbdonjapcpfgiaaDoorIdn3
import Derived.Test.YtbdonjapcpfgiaaDoorRows
import Derived.Deep.DeepCutAuto
import Derived.Maps.AppendAt
import Derived.Test.YtbdonjapcpfgiaaDoorRow
import Derived.Test.YtbdonjapcpfgiaaDoorOps
import Derived.RegionTactic
import Derived.BigRegion
import Derived.ChangeAlike
namespace Go.Proofs.YtbdonjapcpfgiaaDoor
set_option linter.unusedVariables false
set_option linter.unusedSimpArgs false
open Go.ChangeShapes Go.WideShapes Go.ChangeAt Go.RowKit
/-- a key's text. -/
def keyB (p q o : Int) (u : Bool) : ByteArray := if u then idB p q ++ ⟨#[47]⟩ ++ itB o ++ ⟨#[45]⟩ else idB p q ++ ⟨#[47]⟩ ++ itB o
theorem ptab6 {w : World} {l : List (String × DataW Unit)} (hL : laidMet Tryd.prog l w) (hm : ("internal/strconv.uint64pow10", Lib.tabData .u64 Lib.pow10Tab) ∈ l) : PTab w := by
  obtain ⟨g, t, cs, fuel, p, hg, hty, hvar, hd⟩ := Lib.laidMet.reads hL hm
  have e1 : Tryd.prog.globalNamed "internal/strconv.uint64pow10" = some 3 := by kernel_rfl
  obtain rfl := Option.some.inj (e1.symm.trans hg)
  have e2 : (Tryd.prog.globals[3]?).map (·.type) = some 88 := by kernel_rfl
  obtain rfl := Option.some.inj (e2.symm.trans hty)
  unfold PTab Lib.TabIs
  rw [hvar, ← Lib.cells_of_tab Tryd.underlying88 Tryd.underlying66 (by kernel_rfl) (by kernel_rfl) hd]
set_option maxHeartbeats 4000000 in
theorem keytext_any (p q o : Int) (u : Bool) (w : World) (hp : fits p = true) (hq : fits q = true) (ho : fits o = true) (hT : PTab w) : Calls Tryd.prog 21 #[.agg #[.int .i64 p, .int .i64 q, .int .i64 o, .bool u]] w fun e w' => e = .returned (.string (keyB p q o u)) ∧ Below w.heap.size w w' := by
  have HB := Lib.hid ((Below.refl w.heap.size w).alloc (Nat.le_refl _) (.cells #[.int .i64 p, .int .i64 q, .int .i64 o, .bool u] 25))
  have A := Lib.hid (Blk.new w #[.int .i64 p, .int .i64 q, .int .i64 o, .bool u] 25)
  have hl := Lib.hid (show w.heap.size < (w.alloc (.cells #[.int .i64 p, .int .i64 q, .int .i64 o, .bool u] 25)).heap.size by simp)
  have HP := Lib.hid (hT.keep HB.out)
  have CI := Lib.hid (fun w' (hb : Below (w.alloc (.cells #[.int .i64 p, .int .i64 q, .int .i64 o, .bool u] 25)).heap.size (w.alloc (.cells #[.int .i64 p, .int .i64 q, .int .i64 o, .bool u] 25)) w') => show Calls Tryd.prog 19 #[.agg (ints [p, q]).toArray] w' _ from idtext_any p q w' hp hq (HP.out.keep hb))
  have CO := Lib.hid (fun w' (hb : Below (w.alloc (.cells #[.int .i64 p, .int .i64 q, .int .i64 o, .bool u] 25)).heap.size (w.alloc (.cells #[.int .i64 p, .int .i64 q, .int .i64 o, .bool u] 25)) w') => itoa_any o w' ho (HP.out.keep hb))
  have s1 := itB_small o ho
  have s6 : (idB p q).size ≤ 43 := by
    have s1 := itB_small p hp
    have s2 := itB_small q hq
    unfold idB
    rw [ByteArray.size_append, ByteArray.size_append]
    show _ + 1 + _ ≤ _
    omega
  obtain ⟨RV, hRV⟩ : ∃ RV, RV = keyB p q o u := ⟨_, rfl⟩
  rw [← hRV]
  have HRV : Hid (RV = if u then idB p q ++ ⟨#[47]⟩ ++ itB o ++ ⟨#[45]⟩ else idB p q ++ ⟨#[47]⟩ ++ itB o) := Lib.hid hRV
  clear hp hq ho hT hRV
  go_enter Tryd.func21, Tryd.ntmps21
  go_upto_region 1 with fail
  generalize hg : w.heap.size = g at *
  have HG := Lib.hid hg
  generalize (w.alloc (.cells #[.int .i64 p, .int .i64 q, .int .i64 o, .bool u] 25)) = w1 at *
  clear hg
  refine q_begin (by kernel_rfl) (by kernel_rfl) ?_
  repeat (first
    | go_big_quiet_skip
    | ((with_reducible apply q_part (xs := ints [p, q])); (· rfl); (· rfl); (· exact Tryd.underlying23); (· rfl); (· exact A.out); (· exact hl.out); (· rfl); (· exact id_size); (simp only [Act.put, List.setIfInBounds_toArray, List.set_cons_zero, List.set_cons_succ]))
    | ((with_reducible apply q_int); (· rfl); (· rfl); (· exact Tryd.underlying3); (· exact A.out); (· exact hl.out); (· rfl); (simp only [Act.put, List.setIfInBounds_toArray, List.set_cons_zero, List.set_cons_succ]))
    | ((with_reducible apply q_call 19 (.string (idB p q))); (· rfl); (· exact Nat.le_refl _); (· intro w hw; exact CI.out w hw); (· intro w; go_simp); (simp only [Act.put, List.setIfInBounds_toArray, List.set_cons_zero, List.set_cons_succ]))
    | ((with_reducible apply q_call 29 (.string (itB o))); (· rfl); (· exact Nat.le_refl _); (· intro w hw; exact CO.out w hw); (· intro w; go_simp); (simp only [Act.put, List.setIfInBounds_toArray, List.set_cons_zero, List.set_cons_succ]))
    | (go_big_quiet_want; go_big_quiet_op; (first | go_big_quiet_on | (apply Exists.intro; refine ⟨fun _ _ => rfl, ?_⟩; go_big_quiet_on))))
  refine q_end ?_
  intro w2 hb
  have HB2 := Lib.hid (HB.out.trans (hb.mono (HG.out ▸ HB.out.size)))
  have A2 := A.out.keep hb hl.out
  have ca : w2.cell? ⟨g, 3, none⟩ = some (.bool u) := A2.cell 3
  clear hb A2
  cases u
  · go_wp2_with fail
    go_ret
    have hge := HG.out
    subst hge
    exact ⟨by rw [HRV.out]; rfl, HB2.out⟩
  · go_wp2_with fail
    go_ret
    have hge := HG.out
    subst hge
    exact ⟨by rw [HRV.out]; rfl, HB2.out⟩
theorem idB_21 : idB 2 1 = ⟨#[50, 46, 49]⟩ := by
  unfold idB itB
  rw [itoa_pos (by decide), itoa_pos (by decide), show (2 : Int).toNat = 2 from rfl, show (1 : Int).toNat = 1 from rfl, Lib.decDigits_one (by decide), Lib.decDigits_one (by decide)]
  decide
theorem keyB_213 : keyB 2 1 3 true = ⟨#[50, 46, 49, 47, 51, 45]⟩ := by
  unfold keyB
  rw [idB_21]
  unfold itB
  rw [itoa_pos (by decide), show (3 : Int).toNat = 3 from rfl, Lib.decDigits_one (by decide)]
  decide
set_option maxRecDepth 100000 in
set_option maxHeartbeats 4000000 in
theorem alive06 (w : World) (hT : PTab w) : Calls Tryd.prog 6 #[] w fun e w' => e = .returned (.bool true) ∧ Below w.heap.size w w' := by
  have HB := Lib.hid (((Below.refl w.heap.size w).alloc (Nat.le_refl _) (.cells #[.int .i64 2, .int .i64 1] 23)).alloc (by simp) (.cells #[.int .i64 0, .int .i64 2] 23))
  have A := Lib.hid ((Blk.new w #[.int .i64 2, .int .i64 1] 23).alloc (.cells #[.int .i64 0, .int .i64 2] 23))
  have B : Hid (Blk ((w.alloc (.cells #[.int .i64 2, .int .i64 1] 23)).alloc (.cells #[.int .i64 0, .int .i64 2] 23)) (w.heap.size + 1) [.int .i64 0, .int .i64 2] 23) := Lib.hid (by have := Blk.new (w.alloc (.cells #[.int .i64 2, .int .i64 1] 23)) #[.int .i64 0, .int .i64 2] 23; simpa using this)
  have P := Lib.hid (fun w' (hb : Below w.heap.size w w') => parse_good 2 1 (by decide) w' (hT.keep hb))
  rw [idB_21] at P
  have CM := Lib.hid (fun w => may_any 2 1 w)
  rw [show mayId 2 1 = true by decide] at CM
  have CL := Lib.hid (fun w => less_any 2 1 0 2 w)
  rw [show idLess 2 1 0 2 = true by decide] at CL
  have CK := Lib.hid (fun w' (hb : Below w.heap.size w w') => keytext_any 2 1 3 true w' (by decide) (by decide) (by decide) (hT.keep hb))
  rw [keyB_213] at CK
  have CO := Lib.hid (fun w => other_any 2 1 3 false w)
  have EQ := Lib.hid (fun w => id_eql (p := 2) (q := 1) (p2 := 2) (q2 := 1) (by decide) (by decide) (by decide) (by decide) w)
  rw [show decide ((2 : Int) = 2 ∧ (1 : Int) = 1) = true by decide] at EQ
  clear hT
  go_enter Tryd.func6, Tryd.ntmps6
  go_upto_region 2 with fail
  generalize hg0 : w.heap.size = g0 at *
  have HG0 := Lib.hid hg0
  generalize (w.alloc (.cells #[.int .i64 2, .int .i64 1] 23)).alloc (.cells #[.int .i64 0, .int .i64 2] 23) = w1 at *
  clear hg0
  have P1 := Lib.hid (P.out w1 HB.out)
  go_wp2_with fail
  refine P1.out.mono ?_
  rintro e w2 ⟨rfl, hb⟩
  have HB2 := Lib.hid (HB.out.trans (hb.mono (HG0.out ▸ HB.out.size)))
  have A2 := Lib.hid (A.out.keep hb A.out.lt)
  have B2 := Lib.hid (B.out.keep hb B.out.lt)
  clear hb HB A B P P1
  have D := Lib.hid (Blk.new w2 #[.int .i64 2, .int .i64 1] 23)
  have A3 := Lib.hid (A2.out.alloc (.cells #[.int .i64 2, .int .i64 1] 23))
  have B3 := Lib.hid (B2.out.alloc (.cells #[.int .i64 2, .int .i64 1] 23))
  have HB3 := Lib.hid (HB2.out.alloc (HG0.out ▸ HB2.out.size) (.cells #[.int .i64 2, .int .i64 1] 23))
  clear HB2 A2 B2
  go_upto_region 3 with fail
  generalize hg2 : w2.heap.size = g2 at *
  generalize w2.alloc (.cells #[.int .i64 2, .int .i64 1] 23) = w3 at *
  clear hg2
  have TA : RowT 23 ([.int .i64 2, .int .i64 1] : List Value).length := ⟨⟨_, Tryd.underlying23, rfl⟩, by kernel_rfl⟩
  have TB_ : RowT 23 ([.int .i64 0, .int .i64 2] : List Value).length := TA
  have ra := A3.out.range 0 [.int .i64 2, .int .i64 1] rfl
  go_wp2_with (first | ((with_reducible refine ld_row ra TA ?_ ?_ ?_); (· rfl); (· rfl); (simp only [Act.put, List.setIfInBounds_toArray, List.set_cons_zero, List.set_cons_succ])))
  refine (CM.out _).mono ?_
  rintro e w4 ⟨rfl, hb⟩
  have HB4 := Lib.hid (HB3.out.trans (hb.mono (HG0.out ▸ HB3.out.size)))
  have A4 := Lib.hid (A3.out.keep hb A3.out.lt)
  have B4 := Lib.hid (B3.out.keep hb B3.out.lt)
  have D4 := Lib.hid (D.out.keep hb D.out.lt)
  clear hb HB3 A3 B3 D ra CM
  have ra := A4.out.range 0 [.int .i64 2, .int .i64 1] rfl
  have rb := B4.out.range 0 [.int .i64 0, .int .i64 2] rfl
  go_wp2_with (first | ((with_reducible refine ld_row ra TA ?_ ?_ ?_); (· rfl); (· rfl); (simp only [Act.put, List.setIfInBounds_toArray, List.set_cons_zero, List.set_cons_succ])) | ((with_reducible refine ld_row rb TB_ ?_ ?_ ?_); (· rfl); (· rfl); (simp only [Act.put, List.setIfInBounds_toArray, List.set_cons_zero, List.set_cons_succ])))
  refine (CL.out _).mono ?_
  rintro e w5 ⟨rfl, hb⟩
  have HB5 := Lib.hid (HB4.out.trans (hb.mono (HG0.out ▸ HB4.out.size)))
  have A5 := Lib.hid (A4.out.keep hb A4.out.lt)
  have D5 := Lib.hid (D4.out.keep hb D4.out.lt)
  clear hb HB4 A4 B4 D4 ra rb CL
  have ra := A5.out.range 0 [.int .i64 2, .int .i64 1] rfl
  have rd := D5.out.range 0 [.int .i64 2, .int .i64 1] rfl
  have CK5 := Lib.hid (CK.out w5 HB5.out)
  clear CK
  go_wp2_with (first | ((with_reducible refine ld_row ra TA ?_ ?_ ?_); (· rfl); (· rfl); (simp only [Act.put, List.setIfInBounds_toArray, List.set_cons_zero, List.set_cons_succ])) | ((with_reducible refine ld_row rd TA ?_ ?_ ?_); (· rfl); (· rfl); (simp only [Act.put, List.setIfInBounds_toArray, List.set_cons_zero, List.set_cons_succ])) | ((with_reducible refine cmp_row id_grd EQ.out ?_ ?_ ?_ ?_); (· rfl); (· rfl); (· rfl); (simp only [Act.put, List.setIfInBounds_toArray, List.set_cons_zero, List.set_cons_succ])))
  refine CK5.out.mono ?_
  rintro e w6 ⟨rfl, hb⟩
  have HB6 := Lib.hid (HB5.out.trans (hb.mono (HG0.out ▸ HB5.out.size)))
  have A6 := Lib.hid (A5.out.keep hb A5.out.lt)
  clear hb HB5 A5 D5 ra rd CK5
  have ra := A6.out.range 0 [.int .i64 2, .int .i64 1] rfl
  go_wp2_with (first | ((with_reducible refine ld_row ra TA ?_ ?_ ?_); (· rfl); (· rfl); (simp only [Act.put, List.setIfInBounds_toArray, List.set_cons_zero, List.set_cons_succ])))
  refine (CO.out _).mono ?_
  rintro e w7 ⟨rfl, hb⟩
  have HB7 := Lib.hid (HB6.out.trans (hb.mono (HG0.out ▸ HB6.out.size)))
  clear hb
  have FK : ∀ w, (Instr.field 25 (.agg #[.int .i64 2, .int .i64 1, .int .i64 3, .bool true]) 2).run Tryd.prog w = .ok (.bool true) w := fun w => by first | kernel_rfl | rfl | (go_simp <;> rfl) | simp [Instr.field, run_underlying Tryd.underlying25, go_sem]
  go_wp2_with fail
  go_ret
  have hge := HG0.out
  subst hge
  exact ⟨rfl, HB7.out⟩
end Go.Proofs.YtbdonjapcpfgiaaDoor
