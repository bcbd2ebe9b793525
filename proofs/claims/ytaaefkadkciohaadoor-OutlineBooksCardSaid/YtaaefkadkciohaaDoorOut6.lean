/- Keys as texts; requests as lines; something lives. -/
import Derived.Test.YtaaefkadkciohaaDoorOut5
import Derived.Deep.DeepCutAuto
import Derived.Maps.AppendAt
import Derived.Test.YtaaefkadkciohaaDoorRow
import Derived.Test.YtaaefkadkciohaaDoorOps
import Derived.RegionTactic
import Derived.BigRegion
import Derived.ChangeAlike
namespace Go.Proofs.YtaaefkadkciohaaDoor
set_option linter.unusedVariables false
set_option linter.unusedSimpArgs false
open Go.ChangeShapes Go.WideShapes Go.ChangeAt Go.RowKit
def keyB (p q o : Int) (u : Bool) : ByteArray := if u then idB p q ++ ⟨#[47]⟩ ++ itB o ++ ⟨#[45]⟩ else idB p q ++ ⟨#[47]⟩ ++ itB o
theorem keyB_size {p q o : Int} (u : Bool) (hp : fits p = true) (hq : fits q = true) (ho : fits o = true) : (keyB p q o u).size ≤ 66 := by
  have h1 := idB_small p q hp hq
  have h2 := itB_small o ho
  unfold keyB
  cases u
  · show (_ ++ _ ++ _ : ByteArray).size ≤ 66
    rw [ByteArray.size_append, ByteArray.size_append]
    show _ + 1 + _ ≤ 66
    omega
  · show (_ ++ _ ++ _ ++ _ : ByteArray).size ≤ 66
    rw [ByteArray.size_append, ByteArray.size_append, ByteArray.size_append]
    show _ + 1 + _ + 1 ≤ 66
    omega
set_option maxHeartbeats 4000000 in
theorem keytext_any (p q o : Int) (u : Bool) (w : World) (hp : fits p = true) (hq : fits q = true) (ho : fits o = true) (hT : PTab w) : Calls Tryd.prog 22 #[.agg #[.int .i64 p, .int .i64 q, .int .i64 o, .bool u]] w fun e w' => e = .returned (.string (keyB p q o u)) ∧ Below w.heap.size w w' := by
  have HB := Lib.hid ((Below.refl w.heap.size w).alloc (Nat.le_refl _) (.cells #[.int .i64 p, .int .i64 q, .int .i64 o, .bool u] 50))
  have A := Lib.hid (Blk.new w #[.int .i64 p, .int .i64 q, .int .i64 o, .bool u] 50)
  have hl := Lib.hid (show w.heap.size < (w.alloc (.cells #[.int .i64 p, .int .i64 q, .int .i64 o, .bool u] 50)).heap.size by simp)
  have HP := Lib.hid (hT.keep HB.out)
  have CI := Lib.hid (fun w' (hb : Below (w.alloc (.cells #[.int .i64 p, .int .i64 q, .int .i64 o, .bool u] 50)).heap.size (w.alloc (.cells #[.int .i64 p, .int .i64 q, .int .i64 o, .bool u] 50)) w') => show Calls Tryd.prog 19 #[.agg (ints [p, q]).toArray] w' _ from idtext_any p q w' hp hq (HP.out.keep hb))
  have CO := Lib.hid (fun w' (hb : Below (w.alloc (.cells #[.int .i64 p, .int .i64 q, .int .i64 o, .bool u] 50)).heap.size (w.alloc (.cells #[.int .i64 p, .int .i64 q, .int .i64 o, .bool u] 50)) w') => itoa_any o w' ho (HP.out.keep hb))
  have s1 := itB_small o ho
  have s6 := idB_small p q hp hq
  obtain ⟨RV, hRV⟩ : ∃ RV, RV = keyB p q o u := ⟨_, rfl⟩
  rw [← hRV]
  have HRV : Hid (RV = if u then idB p q ++ ⟨#[47]⟩ ++ itB o ++ ⟨#[45]⟩ else idB p q ++ ⟨#[47]⟩ ++ itB o) := Lib.hid hRV
  clear hp hq ho hRV hT
  go_enter Tryd.func22, Tryd.ntmps22
  go_upto_region 1 with fail
  generalize hg : w.heap.size = g at *
  have HG := Lib.hid hg
  generalize (w.alloc (.cells #[.int .i64 p, .int .i64 q, .int .i64 o, .bool u] 50)) = w1 at *
  clear hg
  refine q_begin (by kernel_rfl) (by kernel_rfl) ?_
  repeat (first
    | go_big_quiet_skip
    | ((with_reducible apply q_part (xs := ints [p, q])); (· rfl); (· rfl); (· exact Tryd.underlying23); (· rfl); (· exact A.out); (· exact hl.out); (· rfl); (· exact id_row.2); (simp only [Act.put, List.setIfInBounds_toArray, List.set_cons_zero, List.set_cons_succ]))
    | ((with_reducible apply q_int); (· rfl); (· rfl); (· exact Tryd.underlying3); (· exact A.out); (· exact hl.out); (· rfl); (simp only [Act.put, List.setIfInBounds_toArray, List.set_cons_zero, List.set_cons_succ]))
    | ((with_reducible apply q_call 19 (.string (idB p q))); (· rfl); (· exact Nat.le_refl _); (· intro w hw; exact CI.out w hw); (· intro w; go_simp); (simp only [Act.put, List.setIfInBounds_toArray, List.set_cons_zero, List.set_cons_succ]))
    | ((with_reducible apply q_call 20 (.string (itB o))); (· rfl); (· exact Nat.le_refl _); (· intro w hw; exact CO.out w hw); (· intro w; go_simp); (simp only [Act.put, List.setIfInBounds_toArray, List.set_cons_zero, List.set_cons_succ]))
    | (go_big_quiet_want; go_big_quiet_op; (first | go_big_quiet_on | (apply Exists.intro; refine ⟨fun _ _ => rfl, ?_⟩; go_big_quiet_on))))
  refine q_end ?_
  intro w2 hb
  have HB2 := Lib.hid (HB.out.trans (hb.mono (HG.out ▸ HB.out.size)))
  have A2 := A.out.keep hb hl.out
  have ca : w2.cell? ⟨g, 3, none⟩ = some (.bool u) := A2.cell 3
  clear hb A2
  cases u
  · go_wp2_with fail
    go_ret
    have hge := HG.out
    subst hge
    exact ⟨by rw [HRV.out]; rfl, HB2.out⟩
  · go_wp2_with fail
    go_ret
    have hge := HG.out
    subst hge
    exact ⟨by rw [HRV.out]; rfl, HB2.out⟩
set_option maxHeartbeats 4000000 in
theorem rkeytext_any (p q o : Int) (u : Bool) (w : World) (hp : fits p = true) (hq : fits q = true) (ho : fits o = true) : Calls Tryd.prog 16 #[.agg #[.int .i64 p, .int .i64 q, .int .i64 o, .bool u]] w fun e w' => e = .returned (.string (keyB p q o u)) ∧ Below w.heap.size w w' := by
  have HB := Lib.hid ((Below.refl w.heap.size w).alloc (Nat.le_refl _) (.cells #[.int .i64 p, .int .i64 q, .int .i64 o, .bool u] 50))
  have A := Lib.hid (Blk.new w #[.int .i64 p, .int .i64 q, .int .i64 o, .bool u] 50)
  have hl := Lib.hid (show w.heap.size < (w.alloc (.cells #[.int .i64 p, .int .i64 q, .int .i64 o, .bool u] 50)).heap.size by simp)
  skip
  have CI := Lib.hid (fun w' (hb : Below (w.alloc (.cells #[.int .i64 p, .int .i64 q, .int .i64 o, .bool u] 50)).heap.size (w.alloc (.cells #[.int .i64 p, .int .i64 q, .int .i64 o, .bool u] 50)) w') => show Calls Tryd.prog 7 #[.agg (ints [p, q]).toArray] w' _ from ridtext_any p q w' hp hq)
  have CO := Lib.hid (fun w' (hb : Below (w.alloc (.cells #[.int .i64 p, .int .i64 q, .int .i64 o, .bool u] 50)).heap.size (w.alloc (.cells #[.int .i64 p, .int .i64 q, .int .i64 o, .bool u] 50)) w') => decB o w' ho)
  have s1 := itB_small o ho
  have s6 := idB_small p q hp hq
  obtain ⟨RV, hRV⟩ : ∃ RV, RV = keyB p q o u := ⟨_, rfl⟩
  rw [← hRV]
  have HRV : Hid (RV = if u then idB p q ++ ⟨#[47]⟩ ++ itB o ++ ⟨#[45]⟩ else idB p q ++ ⟨#[47]⟩ ++ itB o) := Lib.hid hRV
  clear hp hq ho hRV
  go_enter Tryd.func16, Tryd.ntmps16
  go_upto_region 1 with fail
  generalize hg : w.heap.size = g at *
  have HG := Lib.hid hg
  generalize (w.alloc (.cells #[.int .i64 p, .int .i64 q, .int .i64 o, .bool u] 50)) = w1 at *
  clear hg
  refine q_begin (by kernel_rfl) (by kernel_rfl) ?_
  repeat (first
    | go_big_quiet_skip
    | ((with_reducible apply q_part (xs := ints [p, q])); (· rfl); (· rfl); (· exact Tryd.underlying23); (· rfl); (· exact A.out); (· exact hl.out); (· rfl); (· exact id_row.2); (simp only [Act.put, List.setIfInBounds_toArray, List.set_cons_zero, List.set_cons_succ]))
    | ((with_reducible apply q_int); (· rfl); (· rfl); (· exact Tryd.underlying3); (· exact A.out); (· exact hl.out); (· rfl); (simp only [Act.put, List.setIfInBounds_toArray, List.set_cons_zero, List.set_cons_succ]))
    | ((with_reducible apply q_call 7 (.string (idB p q))); (· rfl); (· exact Nat.le_refl _); (· intro w hw; exact CI.out w hw); (· intro w; go_simp); (simp only [Act.put, List.setIfInBounds_toArray, List.set_cons_zero, List.set_cons_succ]))
    | ((with_reducible apply q_call 8 (.string (itB o))); (· rfl); (· exact Nat.le_refl _); (· intro w hw; exact CO.out w hw); (· intro w; go_simp); (simp only [Act.put, List.setIfInBounds_toArray, List.set_cons_zero, List.set_cons_succ]))
    | (go_big_quiet_want; go_big_quiet_op; (first | go_big_quiet_on | (apply Exists.intro; refine ⟨fun _ _ => rfl, ?_⟩; go_big_quiet_on))))
  refine q_end ?_
  intro w2 hb
  have HB2 := Lib.hid (HB.out.trans (hb.mono (HG.out ▸ HB.out.size)))
  have A2 := A.out.keep hb hl.out
  have ca : w2.cell? ⟨g, 3, none⟩ = some (.bool u) := A2.cell 3
  clear hb A2
  cases u
  · go_wp2_with fail
    go_ret
    have hge := HG.out
    subst hge
    exact ⟨by rw [HRV.out]; rfl, HB2.out⟩
  · go_wp2_with fail
    go_ret
    have hge := HG.out
    subst hge
    exact ⟨by rw [HRV.out]; rfl, HB2.out⟩
theorem key_sz : (Tryd.prog.info? 50).map (·.size) = some 4 := by kernel_rfl
theorem eft_sz : (Tryd.prog.info? 52).map (·.size) = some 5 := by kernel_rfl
theorem txtB_size {k a n p q : Int} (ha : fits a = true) (hn : fits n = true) (hp : fits p = true) (hq : fits q = true) : (txtB k a n p q).size ≤ 97 := by
  have h1 := itB_small a ha
  have h2 := itB_small n hn
  have h3 := idB_small p q hp hq
  have h4 := wordB_size (if isKnd k then k.toNat else 0)
  have h5 : (wordB (if isKnd k then k.toNat else 0) ++ ⟨#[32]⟩ ++ itB a ++ ⟨#[32]⟩ ++ itB n).size ≤ 53 := by
    rw [ByteArray.size_append, ByteArray.size_append, ByteArray.size_append, ByteArray.size_append]
    show _ + 1 + _ + 1 + _ ≤ 53
    omega
  by_cases h : p = 0 ∧ q = 0
  · rw [show txtB k a n p q = wordB (if isKnd k then k.toNat else 0) ++ ⟨#[32]⟩ ++ itB a ++ ⟨#[32]⟩ ++ itB n from if_pos h]
    omega
  · rw [show txtB k a n p q = wordB (if isKnd k then k.toNat else 0) ++ ⟨#[32]⟩ ++ itB a ++ ⟨#[32]⟩ ++ itB n ++ (⟨#[32]⟩ ++ idB p q) from if_neg h, ByteArray.size_append, ByteArray.size_append (a := ⟨#[32]⟩)]
    show _ + (1 + _) ≤ 97
    omega
def reqB (p q o : Int) (u : Bool) (k a n p2 q2 : Int) : ByteArray := keyB p q o u ++ ⟨#[32]⟩ ++ txtB k a n p2 q2
set_option maxHeartbeats 4000000 in
theorem request_any (p q o : Int) (u : Bool) (k a n p2 q2 : Int) (w : World) (hf : ∀ z ∈ [p, q, o, k, a, n, p2, q2], fits z = true) (hT : PTab w) (hW : WTab w) : Calls Tryd.prog 17 #[.agg #[.int .i64 p, .int .i64 q, .int .i64 o, .bool u, .int .i64 k, .int .i64 a, .int .i64 n, .int .i64 p2, .int .i64 q2]] w fun e w' => e = .returned (.string (reqB p q o u k a n p2 q2)) ∧ Below w.heap.size w w' := by
  have hp := hf p (by simp)
  have hq := hf q (by simp)
  have ho := hf o (by simp)
  have ha := hf a (by simp)
  have hn := hf n (by simp)
  have hp2 := hf p2 (by simp)
  have hq2 := hf q2 (by simp)
  have HB := Lib.hid ((Below.refl w.heap.size w).alloc (Nat.le_refl _) (.cells #[.int .i64 p, .int .i64 q, .int .i64 o, .bool u, .int .i64 k, .int .i64 a, .int .i64 n, .int .i64 p2, .int .i64 q2] 54))
  have A := Lib.hid (Blk.new w #[.int .i64 p, .int .i64 q, .int .i64 o, .bool u, .int .i64 k, .int .i64 a, .int .i64 n, .int .i64 p2, .int .i64 q2] 54)
  have hl := Lib.hid (show w.heap.size < (w.alloc (.cells #[.int .i64 p, .int .i64 q, .int .i64 o, .bool u, .int .i64 k, .int .i64 a, .int .i64 n, .int .i64 p2, .int .i64 q2] 54)).heap.size by simp)
  have HP := Lib.hid (hT.keep HB.out)
  have HW := Lib.hid (hW.keep HB.out)
  have CI := Lib.hid (fun w' (hb : Below (w.alloc (.cells #[.int .i64 p, .int .i64 q, .int .i64 o, .bool u, .int .i64 k, .int .i64 a, .int .i64 n, .int .i64 p2, .int .i64 q2] 54)).heap.size (w.alloc (.cells #[.int .i64 p, .int .i64 q, .int .i64 o, .bool u, .int .i64 k, .int .i64 a, .int .i64 n, .int .i64 p2, .int .i64 q2] 54)) w') => show Calls Tryd.prog 22 #[.agg ([.int .i64 p, .int .i64 q, .int .i64 o, .bool u] : List Value).toArray] w' _ from keytext_any p q o u w' hp hq ho (HP.out.keep hb))
  have CO := Lib.hid (fun w' (hb : Below (w.alloc (.cells #[.int .i64 p, .int .i64 q, .int .i64 o, .bool u, .int .i64 k, .int .i64 a, .int .i64 n, .int .i64 p2, .int .i64 q2] 54)).heap.size (w.alloc (.cells #[.int .i64 p, .int .i64 q, .int .i64 o, .bool u, .int .i64 k, .int .i64 a, .int .i64 n, .int .i64 p2, .int .i64 q2] 54)) w') => show Calls Tryd.prog 23 #[.agg (ints [k, a, n, p2, q2]).toArray] w' _ from text_any k a n p2 q2 w' (fun z hz => by simp at hz; rcases hz with h | h | h | h <;> rw [h] <;> assumption) (HP.out.keep hb) (HW.out.keep hb))
  have s1 := keyB_size u hp hq ho
  have s2 := txtB_size (k := k) ha hn hp2 hq2
  obtain ⟨RV, hRV⟩ : ∃ RV, RV = reqB p q o u k a n p2 q2 := ⟨_, rfl⟩
  rw [← hRV]
  have HRV : Hid (RV = keyB p q o u ++ ⟨#[32]⟩ ++ txtB k a n p2 q2) := Lib.hid hRV
  clear hf hp hq ho ha hn hp2 hq2 hT hW hRV
  generalize keyB p q o u = KB at *
  generalize txtB k a n p2 q2 = XB at *
  go_enter Tryd.func17, Tryd.ntmps17
  go_upto_region 1 with fail
  generalize hg : w.heap.size = g at *
  have HG := Lib.hid hg
  generalize (w.alloc (.cells #[.int .i64 p, .int .i64 q, .int .i64 o, .bool u, .int .i64 k, .int .i64 a, .int .i64 n, .int .i64 p2, .int .i64 q2] 54)) = w1 at *
  clear hg
  refine q_begin (by kernel_rfl) (by kernel_rfl) ?_
  repeat (first
    | go_big_quiet_skip
    | ((with_reducible apply q_part (xs := [.int .i64 p, .int .i64 q, .int .i64 o, .bool u])); (· rfl); (· rfl); (· exact Tryd.underlying50); (· rfl); (· exact A.out); (· exact hl.out); (· rfl); (· exact key_sz); (simp only [Act.put, List.setIfInBounds_toArray, List.set_cons_zero, List.set_cons_succ]))
    | ((with_reducible apply q_part (xs := (ints [k, a, n, p2, q2]))); (· rfl); (· rfl); (· exact Tryd.underlying52); (· rfl); (· exact A.out); (· exact hl.out); (· rfl); (· exact eft_sz); (simp only [Act.put, List.setIfInBounds_toArray, List.set_cons_zero, List.set_cons_succ]))
    | ((with_reducible apply q_call 22 (.string KB)); (· rfl); (· exact Nat.le_refl _); (· intro w hw; exact CI.out w hw); (· intro w; go_simp); (simp only [Act.put, List.setIfInBounds_toArray, List.set_cons_zero, List.set_cons_succ]))
    | ((with_reducible apply q_call 23 (.string XB)); (· rfl); (· exact Nat.le_refl _); (· intro w hw; exact CO.out w hw); (· intro w; go_simp); (simp only [Act.put, List.setIfInBounds_toArray, List.set_cons_zero, List.set_cons_succ]))
    | (go_big_quiet_want; go_big_quiet_op; (first | go_big_quiet_on | (apply Exists.intro; refine ⟨fun _ _ => rfl, ?_⟩; go_big_quiet_on))))
  refine q_end ?_
  intro w2 hb
  have HB2 := Lib.hid (HB.out.trans (hb.mono (HG.out ▸ HB.out.size)))
  go_wp2_with fail
  go_ret
  have hge := HG.out
  subst hge
  exact ⟨by rw [HRV.out]; rfl, HB2.out⟩
theorem itoa_d (d : Nat) (h : d < 10) : Lib.itoa (d : Int) = [UInt8.ofNat (48 + d)] := by
  unfold Lib.itoa
  rw [if_neg (by omega), show (d : Int).toNat = d by omega, Lib.decDigits_one h]
theorem ans_alive : ansB 9 2 0 = ⟨#[101, 114, 114, 111, 114, 32, 57, 32, 50, 32, 48]⟩ := by
  have h9 := itoa_d 9 (by decide)
  have h2 := itoa_d 2 (by decide)
  have h0 := itoa_d 0 (by decide)
  unfold ansB numsB numsL
  simp only [List.flatMap_cons, List.flatMap_nil]
  rw [show Lib.itoa 9 = _ from h9, show Lib.itoa 2 = _ from h2, show Lib.itoa 0 = _ from h0]
  decide
theorem ord_alive : ordB 0 1 0 0 3 0 2 = ⟨#[48, 46, 49, 32, 112, 97, 105, 100, 32, 48, 32, 48, 32, 51, 32, 48]⟩ := by
  have h1 := itoa_d 1 (by decide)
  have h3 := itoa_d 3 (by decide)
  have h0 := itoa_d 0 (by decide)
  unfold ordB numsB numsL idB itB
  simp only [List.flatMap_cons, List.flatMap_nil]
  rw [show Lib.itoa 1 = _ from h1, show Lib.itoa 3 = _ from h3, show Lib.itoa 0 = _ from h0]
  decide
theorem ch_alive : chB 0 1 4 3 0 0 2 0 0 = ⟨#[48, 46, 49, 32, 64, 52, 32, 112, 108, 97, 99, 101, 32, 48, 32, 48, 32, 50]⟩ := by
  have h1 := itoa_d 1 (by decide)
  have h4 := itoa_d 4 (by decide)
  have h2 := itoa_d 2 (by decide)
  have h0 := itoa_d 0 (by decide)
  unfold chB numsB numsL idB itB
  simp only [List.flatMap_cons, List.flatMap_nil]
  rw [show Lib.itoa 1 = _ from h1, show Lib.itoa 4 = _ from h4, show Lib.itoa 0 = _ from h0, show Lib.itoa 2 = _ from h2]
  decide
set_option maxHeartbeats 4000000 in
theorem alive39 (w : World) (hT : PTab w) (hB : STab 1 bookW w) (hS : STab 0 stW w) : Calls Tryd.prog 6 #[] w fun e w' => e = .returned (.bool true) ∧ Below w.heap.size w w' := by
  have C1 := Lib.hid (answer_any 9 2 0 w (by decide) hT)
  have C2 := Lib.hid (fun w' (hb : Below w.heap.size w w') => order_any 0 1 0 0 3 0 2 w' (by decide) (hT.keep hb) (hS.keep hb))
  have C3 := Lib.hid (fun w' (hb : Below w.heap.size w w') => change_any 0 1 4 3 0 0 2 0 0 w' (by decide) (hT.keep hb) (hB.keep hb))
  rw [ans_alive] at C1
  rw [ord_alive] at C2
  rw [ch_alive] at C3
  clear hT hB hS
  go_enter Tryd.func6, Tryd.ntmps6
  go_wp2_with fail
  refine C1.out.mono ?_
  rintro e w1 ⟨rfl, hb1⟩
  have D2 := Lib.hid (C2.out w1 hb1)
  have HB1 := Lib.hid hb1
  clear hb1 C1 C2
  go_wp2_with fail
  refine D2.out.mono ?_
  rintro e w2 ⟨rfl, hb⟩
  have HB2 := Lib.hid (HB1.out.trans (hb.mono HB1.out.size))
  have D3 := Lib.hid (C3.out w2 HB2.out)
  clear hb HB1 D2 C3
  go_wp2_with fail
  refine D3.out.mono ?_
  rintro e w3 ⟨rfl, hb⟩
  have HB3 := Lib.hid (HB2.out.trans (hb.mono HB2.out.size))
  clear hb
  go_wp2_with fail
  go_ret
  exact ⟨rfl, HB3.out⟩
end Go.Proofs.YtaaefkadkciohaaDoor
