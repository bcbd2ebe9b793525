/- TxtM: several texts in one. -/
import Derived.Test.YtaaefkadkciohaaDoorCalls
import Derived.Lib.LaidTab
import Derived.Lib.LaidU8
import Derived.Lib.ItoaLen
import Derived.Test.YtaaefkadkciohaaDoorRows
import Derived.Test.YtaaefkadkciohaaDoorQt
import Derived.Test.YtaaefkadkciohaaDoorChg
import Derived.Test.YtaaefkadkciohaaDoorBlk
import Derived.Deep.DeepCutAuto
import Derived.Maps.AppendAt
import Derived.Test.YtaaefkadkciohaaDoorRow
import Derived.Test.YtaaefkadkciohaaDoorOps
import Derived.RegionTactic
import Derived.BigRegion
import Derived.ChangeAlike
import Derived.Test.YtaaefkadkciohaaDoorEff
import Derived.Test.YtaaefkadkciohaaDoorLd
import Derived.Test.YtaaefkadkciohaaDoorEq
namespace Go.Proofs.YtaaefkadkciohaaDoor
set_option linter.unusedVariables false
set_option linter.unusedSimpArgs false
open Go.ChangeShapes Go.WideShapes Go.ChangeAt Go.RowKit
def PTab (w : World) : Prop := Lib.TabIs Tryd.prog w "internal/strconv.uint64pow10" .u64 Lib.pow10Tab
theorem below_itoa (w : World) (k : Nat) (os : Array Obj) : Below w.heap.size w (Sort.grow (w.drewN k) os) := ⟨rfl, rfl, rfl, by simp [Sort.grow, World.drewN], fun j hj => by
  show (w.heap ++ os)[j]? = w.heap[j]?
  rw [Array.getElem?_append_left hj]⟩
theorem PTab.keep {w w' : World} (h : PTab w) (hb : Below w.heap.size w w') : PTab w' := by
  unfold PTab Lib.TabIs World.var? at *
  revert h
  cases hg : Tryd.prog.globalNamed "internal/strconv.uint64pow10" with
  | none => exact fun h => h
  | some g =>
    intro h
    have hlt : g < w.heap.size := by
      rcases Nat.lt_or_ge g w.heap.size with hl | hl
      · exact hl
      · simp [Array.getElem?_eq_none hl] at h
    simpa [hb.block g hlt] using h
/-- a number's text. -/
def itB (n : Int) : ByteArray := ⟨(Lib.itoa n).toArray⟩
theorem itB_size (n : Int) : (itB n).size = (Lib.itoa n).length := by simp [itB, ByteArray.size]
theorem itoa_any (n : Int) (w : World) (hn : fits n = true) (hT : PTab w) : Calls Tryd.prog 20 #[.int .i64 n] w fun e w' => e = .returned (.string (itB n)) ∧ Below w.heap.size w w' := by
  obtain ⟨h1, h2⟩ := (fits_iff n).1 hn
  refine (strconv_Itoa n h1 h2 w hT).mono ?_
  rintro e w' ⟨rfl, k, os, rfl⟩
  exact ⟨rfl, below_itoa _ _ _⟩
theorem fmt_any (n : Int) (w : World) (hn : fits n = true) (hT : PTab w) : Calls Tryd.prog 25 #[.int .i64 n, .int .i64 10] w fun e w' => e = .returned (.string (itB n)) ∧ Below w.heap.size w w' := by
  obtain ⟨h1, h2⟩ := (fits_iff n).1 hn
  refine (strconv_FormatInt_10 n h1 h2 w hT).mono ?_
  rintro e w' ⟨rfl, k, os, rfl⟩
  exact ⟨rfl, below_itoa _ _ _⟩
theorem itB_small (n : Int) (hn : fits n = true) : (itB n).size ≤ 21 := by
  obtain ⟨h1, h2⟩ := (fits_iff n).1 hn
  rw [itB_size]
  exact Lib.itoa_length_le n h1 h2
/-- an identifier's text. -/
def idB (p q : Int) : ByteArray := itB p ++ ⟨#[46]⟩ ++ itB q
set_option maxHeartbeats 2000000 in
theorem idtext_any (p q : Int) (w : World) (hp : fits p = true) (hq : fits q = true) (hT : PTab w) : Calls Tryd.prog 19 #[.agg #[.int .i64 p, .int .i64 q]] w fun e w' => e = .returned (.string (idB p q)) ∧ Below w.heap.size w w' := by
  have HB := Lib.hid ((Below.refl w.heap.size w).alloc (Nat.le_refl _) (.cells #[.int .i64 p, .int .i64 q] 23))
  have A := Lib.hid (Blk.new w #[.int .i64 p, .int .i64 q] 23)
  have hl := Lib.hid (show w.heap.size < (w.alloc (.cells #[.int .i64 p, .int .i64 q] 23)).heap.size by simp)
  have HP := Lib.hid (hT.keep ((Below.refl w.heap.size w).alloc (Nat.le_refl _) (.cells #[.int .i64 p, .int .i64 q] 23)))
  have CP := Lib.hid (fun w' (hb : Below (w.alloc (.cells #[.int .i64 p, .int .i64 q] 23)).heap.size (w.alloc (.cells #[.int .i64 p, .int .i64 q] 23)) w') => itoa_any p w' hp (HP.out.keep hb))
  have CQ := Lib.hid (fun w' (hb : Below (w.alloc (.cells #[.int .i64 p, .int .i64 q] 23)).heap.size (w.alloc (.cells #[.int .i64 p, .int .i64 q] 23)) w') => itoa_any q w' hq (HP.out.keep hb))
  have s1 := itB_small p hp
  have s2 := itB_small q hq
  go_enter Tryd.func19, Tryd.ntmps19
  go_upto_region 1 with fail
  generalize hg : w.heap.size = g at *
  generalize w.alloc (.cells #[.int .i64 p, .int .i64 q] 23) = w1 at *
  have HG := Lib.hid hg
  clear hg
  refine q_begin (by kernel_rfl) (by kernel_rfl) ?_
  repeat (first
    | go_big_quiet_skip
    | ((with_reducible apply q_int); (· rfl); (· rfl); (· exact Tryd.underlying3); (· exact A.out); (· exact hl.out); (· rfl); (simp only [Act.put, List.setIfInBounds_toArray, List.set_cons_zero, List.set_cons_succ]))
    | ((with_reducible apply q_call 20 (.string (itB p))); (· rfl); (· exact Nat.le_refl _); (· intro w hw; exact CP.out w hw); (· intro w; go_simp); (simp only [Act.put, List.setIfInBounds_toArray, List.set_cons_zero, List.set_cons_succ]))
    | ((with_reducible apply q_call 20 (.string (itB q))); (· rfl); (· exact Nat.le_refl _); (· intro w hw; exact CQ.out w hw); (· intro w; go_simp); (simp only [Act.put, List.setIfInBounds_toArray, List.set_cons_zero, List.set_cons_succ]))
    | (go_big_quiet_want; go_big_quiet_op; (first | go_big_quiet_on | (apply Exists.intro; refine ⟨fun _ _ => rfl, ?_⟩; go_big_quiet_on))))
  refine q_end ?_
  intro w2 hb
  have hg := HG.out
  subst hg
  have HB2 := HB.out.trans (hb.mono HB.out.size)
  go_wp2_with fail
  go_ret
  exact ⟨rfl, HB2⟩
def wordsL : List (List UInt8) := [[63], [114, 101, 115, 101, 114, 118, 101], [97, 100, 106, 117, 115, 116], [114, 101, 108, 101, 97, 115, 101], [97, 117, 116, 104, 111, 114, 105, 122, 101], [108, 97, 98, 101, 108], [112, 105, 99, 107], [109, 97, 105, 108], [114, 101, 99, 101, 105, 112, 116], [99, 97, 112, 116, 117, 114, 101], [114, 101, 112, 97, 121], [100, 105, 115, 112, 97, 116, 99, 104]]
def wordB (i : Nat) : ByteArray := ⟨(wordsL.getD i []).toArray⟩
def WTab (w : World) : Prop := 2 < w.heap.size ∧ ∀ i, i < 12 → w.cell? ⟨2, i, none⟩ = some (.string (wordB i))
theorem WTab.keep {w w' : World} (h : WTab w) (hb : Below w.heap.size w w') : WTab w' := ⟨Nat.lt_of_lt_of_le h.1 hb.size, fun i hi => (hb.cell (p := ⟨2, i, none⟩) h.1).trans (h.2 i hi)⟩
theorem ptab_of {w : World} {l : List (String × DataW Unit)} (hL : laidMet Tryd.prog l w) (hm : ("internal/strconv.uint64pow10", Lib.tabData .u64 Lib.pow10Tab) ∈ l) : PTab w := by
  obtain ⟨g, t, cs, fuel, p, hg, hty, hvar, hd⟩ := Lib.laidMet.reads hL hm
  have e1 : Tryd.prog.globalNamed "internal/strconv.uint64pow10" = some 3 := by kernel_rfl
  obtain rfl := Option.some.inj (e1.symm.trans hg)
  have e2 : (Tryd.prog.globals[3]?).map (·.type) = some 74 := by kernel_rfl
  obtain rfl := Option.some.inj (e2.symm.trans hty)
  unfold PTab Lib.TabIs
  rw [hvar, ← Lib.cells_of_tab Tryd.underlying74 Tryd.underlying67 (by kernel_rfl) (by kernel_rfl) hd]
theorem wtab_of {w : World} {l : List (String × DataW Unit)} (hL : laidMet Tryd.prog l w) (hm : ("countermand/effect.words", (.agg (wordsL.map fun s => .lit (.string s)) : DataW Unit)) ∈ l) : WTab w := by
  obtain ⟨g, t, cs, fuel, p, hg, hty, hvar, hd⟩ := Lib.laidMet.reads hL hm
  have e1 : Tryd.prog.globalNamed "countermand/effect.words" = some 2 := by kernel_rfl
  obtain rfl := Option.some.inj (e1.symm.trans hg)
  have e2 : (Tryd.prog.globals[2]?).map (·.type) = some 55 := by kernel_rfl
  obtain rfl := Option.some.inj (e2.symm.trans hty)
  have HC : ∀ i, i < 12 → w.cell? ⟨2, i, none⟩ = some (.string (wordB i)) := fun i hi => by
    obtain ⟨fuel', d, q, hdi, he⟩ := Lib.array_elem Tryd.underlying55 hd i hi
    rw [show Tryd.prog.cellsOf 9 = 1 by kernel_rfl] at he
    obtain ⟨s, hcs, hs, _⟩ := DataW.trod_string Tryd.underlying9 he
    have e0 := congrArg (·[0]?) hcs
    simp only [List.getElem?_take, List.getElem?_drop, Nat.mul_one, Nat.add_zero] at e0
    rw [World.var?_cell hg hvar i, ← Array.getElem?_toList]
    have e3 : cs.toList[i]? = some (.string s) := by simpa using e0
    rw [e3]
    injection hs with hs1
    rw [List.getElem?_map] at hdi
    have hw : wordsL[i]? = some s.data.toList := by
      cases hx : wordsL[i]? with
      | none => rw [hx] at hdi; cases hdi
      | some y =>
        rw [hx] at hdi
        injection hdi with h1
        rw [hs1] at h1
        injection h1 with h1
        injection h1 with h1
        rw [h1]
    have : wordB i = s := by
      unfold wordB
      rw [List.getD_eq_getElem?_getD, hw]
      simp
    rw [this]
  refine ⟨?_, HC⟩
  exact block_lt_of_cell (HC 0 (by decide))
def txtB (k a n p q : Int) : ByteArray :=
  let s := wordB (if isKnd k then k.toNat else 0) ++ ⟨#[32]⟩ ++ itB a ++ ⟨#[32]⟩ ++ itB n
  if p = 0 ∧ q = 0 then s else s ++ (⟨#[32]⟩ ++ idB p q)
theorem wordB_size (i : Nat) : (wordB i).size ≤ 9 := by
  by_cases h : i < 12
  · rcases i with _ | _ | _ | _ | _ | _ | _ | _ | _ | _ | _ | _ | i
    all_goals first | decide | omega
  · unfold wordB
    rw [List.getD_eq_getElem?_getD, List.getElem?_eq_none (by show 12 ≤ i; omega)]
    decide
theorem wf_fitsT {n : Int} (h : fits n = true) : (Lit.int .i64 n).wf = true := by
  obtain ⟨h1, h2⟩ := (fits_iff n).1 h
  simp only [Lit.wf, IntKind.min, IntKind.max, IntKind.signed, IntKind.bits, Bool.and_eq_true, decide_eq_true_eq, if_true]
  omega
theorem id_row {p q : Int} : RowT 23 (ints [p, q]).length := ⟨⟨_, Tryd.underlying23, rfl⟩, by kernel_rfl⟩
theorem id_guard : Tryd.prog.eqGuardType Tryd.prog.depth 23 = false := by kernel_rfl
theorem flatI : flat Tryd.prog 4 23 = some (List.replicate 2 (some .i64)) := by kernel_rfl
theorem ok_id {p q : Int} (hp : fits p = true) (hq : fits q = true) : OkAll (List.replicate 2 (some .i64)) (ints [p, q]) := ⟨⟨p, rfl, wf_fitsT hp⟩, ⟨q, rfl, wf_fitsT hq⟩, trivial⟩
theorem id_ne {p q : Int} (hp : fits p = true) (hq : fits q = true) (w : World) : (binOp .neq 23 (.agg (ints [p, q]).toArray) (.agg (ints [0, 0]).toArray)).run Tryd.prog w = .ok (.bool (!decide (p = 0 ∧ q = 0))) w := by
  rw [neq_flat 4 4 23 _ _ _ w flatI (by kernel_rfl) (by kernel_rfl) (by kernel_rfl) (by decide) (ok_id hp hq) (ok_id (p := 0) (q := 0) rfl rfl)]
  congr 1
  have := sameB_iff (ok_id hp hq) (ok_id (p := 0) (q := 0) rfl rfl)
  by_cases h : p = 0 ∧ q = 0
  · obtain ⟨rfl, rfl⟩ := h
    rw [this.2 rfl]
    rfl
  · rw [decide_eq_false h]
    exact congrArg (fun b => Value.bool !b) (Bool.eq_false_iff.2 (fun e => h (by have h2 := this.1 e; simp [ints] at h2; exact h2)))
set_option maxHeartbeats 4000000 in
theorem text_any (k a n p q : Int) (w : World) (hf : ∀ z ∈ [a, n, p, q], fits z = true) (hT : PTab w) (hW : WTab w) : Calls Tryd.prog 23 #[.agg #[.int .i64 k, .int .i64 a, .int .i64 n, .int .i64 p, .int .i64 q]] w fun e w' => e = .returned (.string (txtB k a n p q)) ∧ Below w.heap.size w w' := by
  have HB := Lib.hid ((Below.refl w.heap.size w).alloc (Nat.le_refl _) (.cells #[.int .i64 k, .int .i64 a, .int .i64 n, .int .i64 p, .int .i64 q] 52))
  have A := Lib.hid (Blk.new w #[.int .i64 k, .int .i64 a, .int .i64 n, .int .i64 p, .int .i64 q] 52)
  have hl := Lib.hid (show w.heap.size < (w.alloc (.cells #[.int .i64 k, .int .i64 a, .int .i64 n, .int .i64 p, .int .i64 q] 52)).heap.size by simp)
  have HP := Lib.hid (hT.keep HB.out)
  have WT := Lib.hid (hW.keep HB.out)
  have hfa := hf a (by simp)
  have hfn := hf n (by simp)
  have hfp := hf p (by simp)
  have hfq := hf q (by simp)
  have CA := Lib.hid (fun w' (hb : Below (w.alloc (.cells #[.int .i64 k, .int .i64 a, .int .i64 n, .int .i64 p, .int .i64 q] 52)).heap.size (w.alloc (.cells #[.int .i64 k, .int .i64 a, .int .i64 n, .int .i64 p, .int .i64 q] 52)) w') => itoa_any a w' hfa (HP.out.keep hb))
  have CN := Lib.hid (fun w' (hb : Below (w.alloc (.cells #[.int .i64 k, .int .i64 a, .int .i64 n, .int .i64 p, .int .i64 q] 52)).heap.size (w.alloc (.cells #[.int .i64 k, .int .i64 a, .int .i64 n, .int .i64 p, .int .i64 q] 52)) w') => fmt_any n w' hfn (HP.out.keep hb))
  have CI := Lib.hid (fun w' (hb : Below (w.alloc (.cells #[.int .i64 k, .int .i64 a, .int .i64 n, .int .i64 p, .int .i64 q] 52)).heap.size (w.alloc (.cells #[.int .i64 k, .int .i64 a, .int .i64 n, .int .i64 p, .int .i64 q] 52)) w') => idtext_any p q w' hfp hfq (HP.out.keep hb))
  have KD := Lib.hid (kind_any k)
  have s1 := itB_small a hfa
  have s2 := itB_small n hfn
  have s3 := itB_small p hfp
  have s4 := itB_small q hfq
  have s6 : (idB p q).size ≤ 43 := by
    unfold idB
    rw [ByteArray.size_append, ByteArray.size_append]
    show _ + 1 + _ ≤ _
    omega
  have NE := Lib.hid (id_ne hfp hfq)
  clear hf hT hW hfa hfn hfp hfq
  obtain ⟨RV, hRV⟩ : ∃ RV, RV = txtB k a n p q := ⟨_, rfl⟩
  rw [← hRV]
  rcases hk : isKnd k with _ | _
  · rw [hk] at KD
    have s5 := wordB_size 0
    by_cases hz : p = 0 ∧ q = 0
    · have HRV := Lib.hid (show RV = wordB 0 ++ ⟨#[32]⟩ ++ itB a ++ ⟨#[32]⟩ ++ itB n from by rw [hRV]; unfold txtB; rw [hk]; exact if_pos hz)
      rw [decide_eq_true hz] at NE
      clear hz hRV hk
      go_enter Tryd.func23, Tryd.ntmps23
      go_upto_region 1 with fail
      have HG := Lib.hid (show w.heap.size = w.heap.size from rfl)
      generalize hg : w.heap.size = g at *
      have HGE := Lib.hid hg
      generalize (w.alloc (.cells #[.int .i64 k, .int .i64 a, .int .i64 n, .int .i64 p, .int .i64 q] 52)) = w1 at *
      clear hg
      have ca0 := A.out.cell 0
      have cw0 := WT.out.2 0 (by decide)
      go_wp2_with fail
      refine (KD.out _).mono ?_
      rintro e w9 ⟨rfl, rfl⟩
      go_upto_region 4 with fail
      clear ca0 cw0
      refine q_begin (by kernel_rfl) (by kernel_rfl) ?_
      repeat (first
        | go_big_quiet_skip
        | ((with_reducible apply q_int); (· rfl); (· rfl); (· exact Tryd.underlying3); (· exact A.out); (· exact hl.out); (· rfl); (simp only [Act.put, List.setIfInBounds_toArray, List.set_cons_zero, List.set_cons_succ]))
        | ((with_reducible apply q_int); (· rfl); (· rfl); (· exact Tryd.underlying2); (· exact A.out); (· exact hl.out); (· rfl); (simp only [Act.put, List.setIfInBounds_toArray, List.set_cons_zero, List.set_cons_succ]))
        | ((with_reducible apply q_call 20 (.string (itB a))); (· rfl); (· exact Nat.le_refl _); (· intro w hw; exact CA.out w hw); (· intro w; go_simp); (simp only [Act.put, List.setIfInBounds_toArray, List.set_cons_zero, List.set_cons_succ]))
        | ((with_reducible apply q_call 25 (.string (itB n))); (· rfl); (· exact Nat.le_refl _); (· intro w hw; exact CN.out w hw); (· intro w; go_simp); (simp only [Act.put, List.setIfInBounds_toArray, List.set_cons_zero, List.set_cons_succ]))
        | (go_big_quiet_want; go_big_quiet_op; (first | go_big_quiet_on | (apply Exists.intro; refine ⟨fun _ _ => rfl, ?_⟩; go_big_quiet_on))))
      refine q_end ?_
      intro w2 hb2
      have HB2 := Lib.hid (HB.out.trans (hb2.mono (HGE.out ▸ HB.out.size)))
      have A2 := A.out.keep hb2 hl.out
      have ri : w2.rangeAt g 3 (ints [p, q]) := A2.range 3 (ints [p, q]) rfl
      have CI2 := Lib.hid (CI.out w2 hb2)
      clear A2 hb2
      go_wp2_with (first
        | ((with_reducible refine ld_row ri id_row ?_ ?_ ?_); (· rfl); (· rfl); (simp only [Act.put, List.setIfInBounds_toArray, List.set_cons_zero, List.set_cons_succ]))
        | ((with_reducible refine cmp_row id_guard NE.out ?_ ?_ ?_ ?_); (· rfl); (· rfl); (· rfl); (simp only [Act.put, List.setIfInBounds_toArray, List.set_cons_zero, List.set_cons_succ])))
      go_ret
      have hge := HGE.out
      subst hge
      exact ⟨by rw [HRV.out]; rfl, HB2.out⟩

    · have HRV := Lib.hid (show RV = wordB 0 ++ ⟨#[32]⟩ ++ itB a ++ ⟨#[32]⟩ ++ itB n ++ (⟨#[32]⟩ ++ idB p q) from by rw [hRV]; unfold txtB; rw [hk]; exact if_neg hz)
      rw [decide_eq_false hz] at NE
      clear hz hRV hk
      go_enter Tryd.func23, Tryd.ntmps23
      go_upto_region 1 with fail
      have HG := Lib.hid (show w.heap.size = w.heap.size from rfl)
      generalize hg : w.heap.size = g at *
      have HGE := Lib.hid hg
      generalize (w.alloc (.cells #[.int .i64 k, .int .i64 a, .int .i64 n, .int .i64 p, .int .i64 q] 52)) = w1 at *
      clear hg
      have ca0 := A.out.cell 0
      have cw0 := WT.out.2 0 (by decide)
      go_wp2_with fail
      refine (KD.out _).mono ?_
      rintro e w9 ⟨rfl, rfl⟩
      go_upto_region 4 with fail
      clear ca0 cw0
      refine q_begin (by kernel_rfl) (by kernel_rfl) ?_
      repeat (first
        | go_big_quiet_skip
        | ((with_reducible apply q_int); (· rfl); (· rfl); (· exact Tryd.underlying3); (· exact A.out); (· exact hl.out); (· rfl); (simp only [Act.put, List.setIfInBounds_toArray, List.set_cons_zero, List.set_cons_succ]))
        | ((with_reducible apply q_int); (· rfl); (· rfl); (· exact Tryd.underlying2); (· exact A.out); (· exact hl.out); (· rfl); (simp only [Act.put, List.setIfInBounds_toArray, List.set_cons_zero, List.set_cons_succ]))
        | ((with_reducible apply q_call 20 (.string (itB a))); (· rfl); (· exact Nat.le_refl _); (· intro w hw; exact CA.out w hw); (· intro w; go_simp); (simp only [Act.put, List.setIfInBounds_toArray, List.set_cons_zero, List.set_cons_succ]))
        | ((with_reducible apply q_call 25 (.string (itB n))); (· rfl); (· exact Nat.le_refl _); (· intro w hw; exact CN.out w hw); (· intro w; go_simp); (simp only [Act.put, List.setIfInBounds_toArray, List.set_cons_zero, List.set_cons_succ]))
        | (go_big_quiet_want; go_big_quiet_op; (first | go_big_quiet_on | (apply Exists.intro; refine ⟨fun _ _ => rfl, ?_⟩; go_big_quiet_on))))
      refine q_end ?_
      intro w2 hb2
      have HB2 := Lib.hid (HB.out.trans (hb2.mono (HGE.out ▸ HB.out.size)))
      have A2 := A.out.keep hb2 hl.out
      have ri : w2.rangeAt g 3 (ints [p, q]) := A2.range 3 (ints [p, q]) rfl
      have CI2 := Lib.hid (CI.out w2 hb2)
      clear A2 hb2
      go_wp2_with (first
        | ((with_reducible refine ld_row ri id_row ?_ ?_ ?_); (· rfl); (· rfl); (simp only [Act.put, List.setIfInBounds_toArray, List.set_cons_zero, List.set_cons_succ]))
        | ((with_reducible refine cmp_row id_guard NE.out ?_ ?_ ?_ ?_); (· rfl); (· rfl); (· rfl); (simp only [Act.put, List.setIfInBounds_toArray, List.set_cons_zero, List.set_cons_succ])))
      refine CI2.out.mono ?_
      rintro e w3 ⟨rfl, hb3⟩
      have HB3 := Lib.hid (HB2.out.trans (hb3.mono (HGE.out ▸ HB2.out.size)))
      clear hb3
      go_wp2_with fail
      go_ret
      have hge := HGE.out
      subst hge
      exact ⟨by rw [HRV.out]; rfl, HB3.out⟩

  · rw [hk] at KD
    obtain ⟨kk, hkk⟩ : ∃ kk : Nat, (kk : Int) = k := ⟨k.toNat, by have := (isKnd_iff k).1 hk; omega⟩
    have s5 := wordB_size kk
    have HKK : Hid (kk < 12) := Lib.hid (by have := (isKnd_iff k).1 hk; omega)
    have hk0 : (0 : Int) ≤ kk := by omega
    have hk1 : (kk : Int) < 12 := by have := HKK.out; omega
    by_cases hz : p = 0 ∧ q = 0
    · have HRV := Lib.hid (show RV = wordB kk ++ ⟨#[32]⟩ ++ itB a ++ ⟨#[32]⟩ ++ itB n from by rw [hRV]; unfold txtB; rw [hk, show k.toNat = kk by omega]; exact if_pos hz)
      rw [decide_eq_true hz] at NE
      clear hz hRV hk
      subst hkk
      go_enter Tryd.func23, Tryd.ntmps23
      go_upto_region 1 with fail
      have HG := Lib.hid (show w.heap.size = w.heap.size from rfl)
      generalize hg : w.heap.size = g at *
      have HGE := Lib.hid hg
      generalize (w.alloc (.cells #[.int .i64 (kk : Int), .int .i64 a, .int .i64 n, .int .i64 p, .int .i64 q] 52)) = w1 at *
      clear hg
      have ca0 := A.out.cell 0
      have cw0 := WT.out.2 0 (by decide)
      have cwk := WT.out.2 kk HKK.out
      go_wp2_with fail
      refine (KD.out _).mono ?_
      rintro e w9 ⟨rfl, rfl⟩
      go_upto_region 4 with fail
      clear ca0 cw0 cwk
      refine q_begin (by kernel_rfl) (by kernel_rfl) ?_
      repeat (first
        | go_big_quiet_skip
        | ((with_reducible apply q_int); (· rfl); (· rfl); (· exact Tryd.underlying3); (· exact A.out); (· exact hl.out); (· rfl); (simp only [Act.put, List.setIfInBounds_toArray, List.set_cons_zero, List.set_cons_succ]))
        | ((with_reducible apply q_int); (· rfl); (· rfl); (· exact Tryd.underlying2); (· exact A.out); (· exact hl.out); (· rfl); (simp only [Act.put, List.setIfInBounds_toArray, List.set_cons_zero, List.set_cons_succ]))
        | ((with_reducible apply q_call 20 (.string (itB a))); (· rfl); (· exact Nat.le_refl _); (· intro w hw; exact CA.out w hw); (· intro w; go_simp); (simp only [Act.put, List.setIfInBounds_toArray, List.set_cons_zero, List.set_cons_succ]))
        | ((with_reducible apply q_call 25 (.string (itB n))); (· rfl); (· exact Nat.le_refl _); (· intro w hw; exact CN.out w hw); (· intro w; go_simp); (simp only [Act.put, List.setIfInBounds_toArray, List.set_cons_zero, List.set_cons_succ]))
        | (go_big_quiet_want; go_big_quiet_op; (first | go_big_quiet_on | (apply Exists.intro; refine ⟨fun _ _ => rfl, ?_⟩; go_big_quiet_on))))
      refine q_end ?_
      intro w2 hb2
      have HB2 := Lib.hid (HB.out.trans (hb2.mono (HGE.out ▸ HB.out.size)))
      have A2 := A.out.keep hb2 hl.out
      have ri : w2.rangeAt g 3 (ints [p, q]) := A2.range 3 (ints [p, q]) rfl
      have CI2 := Lib.hid (CI.out w2 hb2)
      clear A2 hb2
      go_wp2_with (first
        | ((with_reducible refine ld_row ri id_row ?_ ?_ ?_); (· rfl); (· rfl); (simp only [Act.put, List.setIfInBounds_toArray, List.set_cons_zero, List.set_cons_succ]))
        | ((with_reducible refine cmp_row id_guard NE.out ?_ ?_ ?_ ?_); (· rfl); (· rfl); (· rfl); (simp only [Act.put, List.setIfInBounds_toArray, List.set_cons_zero, List.set_cons_succ])))
      go_ret
      have hge := HGE.out
      subst hge
      exact ⟨by rw [HRV.out]; rfl, HB2.out⟩

    · have HRV := Lib.hid (show RV = wordB kk ++ ⟨#[32]⟩ ++ itB a ++ ⟨#[32]⟩ ++ itB n ++ (⟨#[32]⟩ ++ idB p q) from by rw [hRV]; unfold txtB; rw [hk, show k.toNat = kk by omega]; exact if_neg hz)
      rw [decide_eq_false hz] at NE
      clear hz hRV hk
      subst hkk
      go_enter Tryd.func23, Tryd.ntmps23
      go_upto_region 1 with fail
      have HG := Lib.hid (show w.heap.size = w.heap.size from rfl)
      generalize hg : w.heap.size = g at *
      have HGE := Lib.hid hg
      generalize (w.alloc (.cells #[.int .i64 (kk : Int), .int .i64 a, .int .i64 n, .int .i64 p, .int .i64 q] 52)) = w1 at *
      clear hg
      have ca0 := A.out.cell 0
      have cw0 := WT.out.2 0 (by decide)
      have cwk := WT.out.2 kk HKK.out
      go_wp2_with fail
      refine (KD.out _).mono ?_
      rintro e w9 ⟨rfl, rfl⟩
      go_upto_region 4 with fail
      clear ca0 cw0 cwk
      refine q_begin (by kernel_rfl) (by kernel_rfl) ?_
      repeat (first
        | go_big_quiet_skip
        | ((with_reducible apply q_int); (· rfl); (· rfl); (· exact Tryd.underlying3); (· exact A.out); (· exact hl.out); (· rfl); (simp only [Act.put, List.setIfInBounds_toArray, List.set_cons_zero, List.set_cons_succ]))
        | ((with_reducible apply q_int); (· rfl); (· rfl); (· exact Tryd.underlying2); (· exact A.out); (· exact hl.out); (· rfl); (simp only [Act.put, List.setIfInBounds_toArray, List.set_cons_zero, List.set_cons_succ]))
        | ((with_reducible apply q_call 20 (.string (itB a))); (· rfl); (· exact Nat.le_refl _); (· intro w hw; exact CA.out w hw); (· intro w; go_simp); (simp only [Act.put, List.setIfInBounds_toArray, List.set_cons_zero, List.set_cons_succ]))
        | ((with_reducible apply q_call 25 (.string (itB n))); (· rfl); (· exact Nat.le_refl _); (· intro w hw; exact CN.out w hw); (· intro w; go_simp); (simp only [Act.put, List.setIfInBounds_toArray, List.set_cons_zero, List.set_cons_succ]))
        | (go_big_quiet_want; go_big_quiet_op; (first | go_big_quiet_on | (apply Exists.intro; refine ⟨fun _ _ => rfl, ?_⟩; go_big_quiet_on))))
      refine q_end ?_
      intro w2 hb2
      have HB2 := Lib.hid (HB.out.trans (hb2.mono (HGE.out ▸ HB.out.size)))
      have A2 := A.out.keep hb2 hl.out
      have ri : w2.rangeAt g 3 (ints [p, q]) := A2.range 3 (ints [p, q]) rfl
      have CI2 := Lib.hid (CI.out w2 hb2)
      clear A2 hb2
      go_wp2_with (first
        | ((with_reducible refine ld_row ri id_row ?_ ?_ ?_); (· rfl); (· rfl); (simp only [Act.put, List.setIfInBounds_toArray, List.set_cons_zero, List.set_cons_succ]))
        | ((with_reducible refine cmp_row id_guard NE.out ?_ ?_ ?_ ?_); (· rfl); (· rfl); (· rfl); (simp only [Act.put, List.setIfInBounds_toArray, List.set_cons_zero, List.set_cons_succ])))
      refine CI2.out.mono ?_
      rintro e w3 ⟨rfl, hb3⟩
      have HB3 := Lib.hid (HB2.out.trans (hb3.mono (HGE.out ▸ HB2.out.size)))
      clear hb3
      go_wp2_with fail
      go_ret
      have hge := HGE.out
      subst hge
      exact ⟨by rw [HRV.out]; rfl, HB3.out⟩

end Go.Proofs.YtaaefkadkciohaaDoor
