/- A step of a script, of the tent and of the list. -/
import Derived.Test.YtcfipimhpeblbaaTen8
import Derived.Deep.DeepCutAuto
import Derived.Maps.AppendAt
import Derived.Test.YtcfipimhpeblbaaRow
import Derived.Test.YtcfipimhpeblbaaOps
import Derived.RegionTactic
import Derived.BigRegion
import Derived.ChangeAlike
namespace Go.Proofs.Ytcfipimhpeblbaa
set_option linter.unusedVariables false
set_option linter.unusedSimpArgs false
open Go.ChangeShapes Go.WideShapes Go.ChangeAt Go.RowKit
structure St (w : World) (g : Nat) (a : Option Addr) (n c : Nat) (ma : Option Addr) (mc : Nat) (L : List Int) : Prop where
  t : Tn w g a n c L
  m : Sl w ma n 9 (ints L)
  mz : ma = none → mc = 0
  mn : n ≤ mc
  mg : n = 0 ∨ ∀ ad, ma = some ad → ad.block ≠ g
theorem St.keep {w w' : World} {g n c mc : Nat} {a ma : Option Addr} {L : List Int} (S : St w g a n c ma mc L) (hb : Below w.heap.size w w') : St w' g a n c ma mc L := ⟨S.t.keep hb, S.m.keep hb, S.mz, S.mn, S.mg⟩
theorem slOnly {w w' : World} {g n sz : Nat} {a : Option Addr} {xs : List Value} (h : Sl w a n sz xs) (hg : n = 0 ∨ ∀ ad, a = some ad → ad.block ≠ g) (ho : Only (fun k => k = g) w w') : Sl w' a n sz xs := by
  rcases hg with h0 | hg
  · exact ⟨h.1, Or.inl h0⟩
  · exact h.only ho hg
def StepR (w : World) (g n : Nat) (e : Ending) (w' : World) : Prop := ∃ a' n' c' ma' mc' L', e = .returned (.tuple #[.slice ma' n' mc', .bool true]) ∧ St w' g a' n' c' ma' mc' L' ∧ (∀ k, fits (L'.getD k 0) = true) ∧ n' ≤ n + 1 ∧ Only (fun k => k = g) w w'
theorem fits_of18 {L : List Int} (h : ∀ z ∈ L, fits z = true) : ∀ k, fits (L.getD k 0) = true := fun k => by
  rw [List.getD_eq_getElem?_getD]
  cases hk : L[k]? with
  | none => rfl
  | some z => exact h z (List.mem_of_getElem? hk)
theorem idxC_lt {L : List Int} {r q : Int} : ∀ n, idxC L r q n = -1 ∨ ∃ j : Nat, idxC L r q n = j ∧ j < n
  | 0 => Or.inl rfl
  | n + 1 => by
    rcases idxC_lt (L := L) (r := r) (q := q) n with h | ⟨j, h, hj⟩
    · unfold idxC
      rw [if_pos h]
      split
      · exact Or.inr ⟨n, rfl, by omega⟩
      · exact Or.inl rfl
    · refine Or.inr ⟨j, ?_, by omega⟩
      unfold idxC
      rw [if_neg (by rw [h]; omega), h]
theorem putC_fits {L cv : List Int} {n : Nat} (h1 : ∀ k, fits (L.getD k 0) = true) (h2 : ∀ z ∈ cv, fits z = true) : ∀ k, fits ((putC L n cv).getD k 0) = true := by
  have hm : ∀ z ∈ L, fits z = true := fun z hz => by
    obtain ⟨i, hi, rfl⟩ := List.getElem_of_mem hz
    have := h1 i
    rwa [List.getD_eq_getElem?_getD, List.getElem?_eq_getElem hi] at this
  refine fits_of18 fun z hz => ?_
  unfold putC at hz
  rcases List.mem_append.1 hz with h | h
  · rcases List.mem_append.1 h with h | h
    · exact hm z (List.mem_of_mem_take h)
    · exact h2 z h
  · exact hm z (List.mem_of_mem_drop h)
theorem withTo_mem18 {L : List Int} {x : Int} {z : Int} : ∀ {n : Nat}, z ∈ withTo L x n → z ∈ L
  | 0, h => by cases h
  | n + 1, h => by
    unfold withTo at h
    split at h
    · exact withTo_mem18 h
    · rcases List.mem_append.1 h with h | h
      · exact withTo_mem18 h
      · exact rAt_mem h
theorem withTo_fits {L : List Int} {x : Int} {n : Nat} (h1 : ∀ k, fits (L.getD k 0) = true) : ∀ k, fits ((withTo L x n).getD k 0) = true := by
  refine fits_of18 fun z hz => ?_
  obtain ⟨i, hi, rfl⟩ := List.getElem_of_mem (withTo_mem18 hz)
  have := h1 i
  rwa [List.getD_eq_getElem?_getD, List.getElem?_eq_getElem hi] at this
set_option maxRecDepth 100000 in
set_option maxHeartbeats 8000000 in
theorem step_put {w : World} {g n c mc : Nat} {a ma : Option Addr} {L : List Int} (x0 x1 x2 x3 x4 x5 x6 x7 x8 x9 x10 x11 : Int) (S : St w g a n c ma mc L) (hf : Hid (∀ k, fits (L.getD k 0) = true)) (hx : ∀ z ∈ [x0, x1, x2, x3, x4, x5, x6, x7, x8, x9, x10, x11], fits z = true) (hn : n ≤ 900) (h0 : x0 = 1) :
    Calls Try.prog 19 #[.pointer (some ⟨g, 0, none⟩), .slice ma n mc, .agg #[.int .i64 x0, .int .i64 x1, .int .i64 x2, .int .i64 x3, .int .i64 x4, .int .i64 x5, .int .i64 x6, .int .i64 x7, .int .i64 x8, .int .i64 x9, .int .i64 x10, .int .i64 x11]] w fun e w' => StepR w g n e w' := by
  have HB := Lib.hid ((Below.refl w.heap.size w).alloc (Nat.le_refl _) (.cells #[.int .i64 x0, .int .i64 x1, .int .i64 x2, .int .i64 x3, .int .i64 x4, .int .i64 x5, .int .i64 x6, .int .i64 x7, .int .i64 x8, .int .i64 x9, .int .i64 x10, .int .i64 x11] 50))
  have X1 : Hid (Blk (w.alloc (.cells #[.int .i64 x0, .int .i64 x1, .int .i64 x2, .int .i64 x3, .int .i64 x4, .int .i64 x5, .int .i64 x6, .int .i64 x7, .int .i64 x8, .int .i64 x9, .int .i64 x10, .int .i64 x11] 50)) w.heap.size (#[.int .i64 x0, .int .i64 x1, .int .i64 x2, .int .i64 x3, .int .i64 x4, .int .i64 x5, .int .i64 x6, .int .i64 x7, .int .i64 x8, .int .i64 x9, .int .i64 x10, .int .i64 x11] : Array Value).toList 50) := Lib.hid (Blk.new w #[.int .i64 x0, .int .i64 x1, .int .i64 x2, .int .i64 x3, .int .i64 x4, .int .i64 x5, .int .i64 x6, .int .i64 x7, .int .i64 x8, .int .i64 x9, .int .i64 x10, .int .i64 x11] 50)
  have S1 := Lib.hid (S.keep HB.out)
  have NG : Hid (¬ w.heap.size = g) := Lib.hid (fun e => by have := S.t.b.lt; omega)
  have GW : Hid (g < w.heap.size) := Lib.hid S.t.b.lt
  have f1 : fits x1 = true := hx x1 (by simp)
  have f2 : fits x2 = true := hx x2 (by simp)
  have fcv : ∀ z ∈ [x1, x2, x3, x4, x5, x6, x7, x8, x9], fits z = true := fun z hz => hx z (by simp at hz ⊢; omega)
  have fck := fits_of18 fcv
  have RF := Lib.hid (rfindS_any ma n mc L x1 x2 _ (Lib.hid S1.out.m) hf f1 f2 (by omega))
  have RP := Lib.hid (fun w' hs => rputS_any ma n mc L [x1, x2, x3, x4, x5, x6, x7, x8, x9] w' (Lib.hid hs) S.mz S.mn (by omega) rfl)
  have TPN := Lib.hid (fun w' (T : Hid (Tn w' g a n c L)) hh => tput_no (w := w') T [x1, x2, x3, x4, x5, x6, x7, x8, x9] rfl hf fck (by omega) hh)
  have TPY0 := Lib.hid (fun hh w' (T : Hid (Tn w' g a n c L)) => tput_yes (w := w') T [x1, x2, x3, x4, x5, x6, x7, x8, x9] rfl hf fck (by omega) hh)
  have eI : idxC L (idR [x1, x2, x3, x4, x5, x6, x7, x8, x9]) (idQ [x1, x2, x3, x4, x5, x6, x7, x8, x9]) n = idxC L x1 x2 n := rfl
  rw [eI] at TPN TPY0
  have FP := Lib.hid (putC_fits (n := n) hf.out fcv)
  subst h0
  clear fck fcv f1 f2 hx eI S
  generalize idxC L x1 x2 n = ix at *
  go_enter Try.func19, Try.ntmps19
  go_upto_region 1 with fail
  generalize hg0 : w.heap.size = g0 at *
  have HG0 := Lib.hid hg0
  generalize w.alloc (.cells #[.int .i64 1, .int .i64 x1, .int .i64 x2, .int .i64 x3, .int .i64 x4, .int .i64 x5, .int .i64 x6, .int .i64 x7, .int .i64 x8, .int .i64 x9, .int .i64 x10, .int .i64 x11] 50) = w1 at *
  clear hg0
  have c0 : w1.cell? ⟨g0, 0, none⟩ = some (.int .i64 1) := X1.out.cell 0
  have rI := X1.out.range 1 (ints [x1, x2]) rfl
  have TI : RowT 34 (ints [x1, x2]).length := rowIdS
  go_wp2_with (first
    | ((with_reducible refine ld_row rI TI ?_ ?_ ?_); (· rfl); (· rfl); (simp only [Act.put, List.setIfInBounds_toArray, List.set_cons_zero, List.set_cons_succ])))
  refine RF.out.mono ?_
  rintro e w2 ⟨rfl, hb⟩
  have HB2 := Lib.hid (HB.out.trans (hb.mono (HG0.out ▸ HB.out.size)))
  have X2 := Lib.hid (X1.out.keep hb X1.out.lt)
  have S2 := Lib.hid (S1.out.keep hb)
  clear hb HB X1 S1 RF rI c0
  by_cases hh : 0 ≤ ix
  · have rC := X2.out.range 1 (ints [x1, x2, x3, x4, x5, x6, x7, x8, x9]) rfl
    have TC : RowT 36 (ints [x1, x2, x3, x4, x5, x6, x7, x8, x9]).length := rowChg
    have P3 := Lib.hid (TPN.out w2 (Lib.hid S2.out.t) hh)
    have hhb : ¬ ix < 0 := by omega
    clear TPN TPY0 RP
    go_wp2_with (first
      | ((with_reducible refine ld_row rC TC ?_ ?_ ?_); (· rfl); (· rfl); (simp only [Act.put, List.setIfInBounds_toArray, List.set_cons_zero, List.set_cons_succ])))
    refine P3.out.mono ?_
    rintro e w3 ⟨rfl, hb⟩
    have HB3 := Lib.hid (HB2.out.trans (hb.mono (HG0.out ▸ HB2.out.size)))
    have S3 := Lib.hid (S2.out.keep hb)
    clear hb
    go_wp2_with fail
    go_ret2
    have hge := HG0.out
    subst hge
    exact ⟨a, n, c, ma, mc, L, rfl, S3.out, hf.out, by omega, Only.ofBelow' HB3.out⟩
  · have hhb : ix < 0 := by omega
    have TPY := Lib.hid (TPY0.out hhb)
    clear TPN TPY0
    go_upto_region 4 with fail
    refine held_begin (fun w' => Only (fun k => k = g) w2 w') 10 [false, false, false, false, false, false, false, false, false, false] (by kernel_rfl) rfl (by rfl) ?_
    have hHeld : Only (fun k => k = g) w2 w2.drew := (Only.refl _ _).drew
    refine held_take (v := ?_) 0 26 [true, false, false, false, false, false, false, false, false, false] rfl (by rfl) (by rfl) (by kernel_rfl) (by kernel_rfl) (by kernel_rfl) (by rfl) (fun _ _ _ h => h) ?_ hHeld ?_
    rotate_left
    · intro w hSw; go_simp <;> with_reducible rfl
    simp only [Act.put, List.setIfInBounds_toArray, List.set_cons_zero, List.set_cons_succ]
    refine held_take (v := .pointer (some ⟨g0, 1, none⟩)) 1 27 [true, true, false, false, false, false, false, false, false, false] rfl (by rfl) (by rfl) (by kernel_rfl) (by kernel_rfl) (by kernel_rfl) (by rfl) (fun _ _ _ h => h) (fun w' h => by first | (go_simp; done) | (go_simp; omega) | (go_simp <;> rfl)) hHeld ?_
    simp only [Act.put, List.setIfInBounds_toArray, List.set_cons_zero, List.set_cons_succ]
    refine held_take (v := .agg (ints [x1, x2, x3, x4, x5, x6, x7, x8, x9]).toArray) 2 28 [true, true, true, false, false, false, false, false, false, false] rfl (by rfl) (by rfl) (by kernel_rfl) (by kernel_rfl) (by kernel_rfl) (by rfl) (fun _ _ _ h => h) (fun w' h => run_op_load rfl rfl ((X2.out.only h NG.out).range 1 (ints [x1, x2, x3, x4, x5, x6, x7, x8, x9]) rfl) Try.underlying36 rfl rfl) hHeld ?_
    simp only [Act.put, List.setIfInBounds_toArray, List.set_cons_zero, List.set_cons_succ]
    refine held_take (v := ?_) 4 30 [true, true, true, false, true, false, false, false, false, false] rfl (by rfl) (by rfl) (by kernel_rfl) (by kernel_rfl) (by kernel_rfl) (by rfl) (fun _ _ _ h => h) ?_ hHeld ?_
    rotate_left
    · intro w hSw; go_simp <;> with_reducible rfl
    simp only [Act.put, List.setIfInBounds_toArray, List.set_cons_zero, List.set_cons_succ]
    refine held_take (v := .pointer (some ⟨g0, 1, none⟩)) 5 31 [true, true, true, false, true, true, false, false, false, false] rfl (by rfl) (by rfl) (by kernel_rfl) (by kernel_rfl) (by kernel_rfl) (by rfl) (fun _ _ _ h => h) (fun w' h => by first | (go_simp; done) | (go_simp; omega) | (go_simp <;> rfl)) hHeld ?_
    simp only [Act.put, List.setIfInBounds_toArray, List.set_cons_zero, List.set_cons_succ]
    refine held_take (v := .agg (ints [x1, x2, x3, x4, x5, x6, x7, x8, x9]).toArray) 6 32 [true, true, true, false, true, true, true, false, false, false] rfl (by rfl) (by rfl) (by kernel_rfl) (by kernel_rfl) (by kernel_rfl) (by rfl) (fun _ _ _ h => h) (fun w' h => run_op_load rfl rfl ((X2.out.only h NG.out).range 1 (ints [x1, x2, x3, x4, x5, x6, x7, x8, x9]) rfl) Try.underlying36 rfl rfl) hHeld ?_
    simp only [Act.put, List.setIfInBounds_toArray, List.set_cons_zero, List.set_cons_succ]
    have SD := Lib.hid (S2.out.keep ((Below.refl w2.heap.size w2).drew))
    generalize w2.drew = wD at *
    have PC := RP.out wD SD.out.m
    refine held_call 3 29 [true, true, true, true, true, true, true, false, false, false] (by kernel_rfl) rfl (by rfl) (by rfl) (by rfl) (by go_simp) ((PC).mono ?_)
    rintro e w4 ⟨v4, rfl, hown4, hb4⟩
    obtain ⟨a4, c4, rfl, hs4, hz4, hn4, hf4⟩ := own_slF hown4
    refine ⟨_, rfl, hHeld.trans (Only.ofBelow' hb4), fun hHeld => ?_⟩
    simp only [Act.put, List.setIfInBounds_toArray, List.set_cons_zero, List.set_cons_succ]
    have TP := TPY.out w4 (Lib.hid (SD.out.t.keep hb4))
    refine held_call 7 33 [true, true, true, true, true, true, true, true, false, false] (by kernel_rfl) rfl (by rfl) (by rfl) (by rfl) (by go_simp) ((TP).mono ?_)
    rintro e w5 ⟨rfl, ⟨a5, c5, t5⟩, ho5⟩
    refine ⟨_, rfl, hHeld.trans ho5, fun hHeld => ?_⟩
    simp only [Act.put, List.setIfInBounds_toArray, List.set_cons_zero, List.set_cons_succ]
    refine held_take (v := ?_) 8 6 [true, true, true, true, true, true, true, true, true, false] rfl (by rfl) (by rfl) (by kernel_rfl) (by kernel_rfl) (by kernel_rfl) (by rfl) (fun _ _ _ h => h) ?_ hHeld ?_
    rotate_left
    · intro w hSw; go_simp <;> with_reducible rfl
    simp only [Act.put, List.setIfInBounds_toArray, List.set_cons_zero, List.set_cons_succ]
    refine held_take (v := ?_) 9 7 [true, true, true, true, true, true, true, true, true, true] rfl (by rfl) (by rfl) (by kernel_rfl) (by kernel_rfl) (by kernel_rfl) (by rfl) (fun _ _ _ h => h) ?_ hHeld ?_
    rotate_left
    · intro w hSw; go_simp <;> with_reducible rfl
    simp only [Act.put, List.setIfInBounds_toArray, List.set_cons_zero, List.set_cons_succ]
    refine held_done (by kernel_rfl) ?_
    have HM : n + 1 = 0 ∨ ∀ ad, a4 = some ad → ad.block ≠ g := Or.inr (fun ad e => by
      have h1 := (hf4.resolve_left (by omega)) ad e
      have h2 := SD.out.t.b.lt
      omega)
    have ST : Hid (St w5 g a5 (n + 1) c5 a4 c4 (putC L n [x1, x2, x3, x4, x5, x6, x7, x8, x9])) := Lib.hid ⟨t5, slOnly hs4 HM ho5, hz4, hn4, HM⟩
    have HO9 := Lib.hid ((Only.ofBelow' (p := fun k => k = g) (show Below w.heap.size w w2 from HG0.out.symm ▸ HB2.out)).trans hHeld)
    clear hHeld t5 ho5 hs4 hz4 hn4 hf4 HM SD hown4 hb4 PC TP
    go_wp2_with fail
    go_ret2
    exact ⟨a5, n + 1, c5, a4, c4, _, rfl, ST.out, FP.out, by omega, HO9.out⟩
end Go.Proofs.Ytcfipimhpeblbaa
