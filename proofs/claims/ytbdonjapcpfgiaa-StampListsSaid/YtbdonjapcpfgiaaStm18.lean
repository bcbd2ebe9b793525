/- A list with one more, or one less: as the page says. -/
import Derived.Test.YtbdonjapcpfgiaaStm17
import Derived.Test.YtbdonjapcpfgiaaStm10
import Derived.Deep.DeepCutAuto
import Derived.Maps.AppendAt
import Derived.Test.YtbdonjapcpfgiaaRow
import Derived.Test.YtbdonjapcpfgiaaOps
import Derived.RegionTactic
import Derived.BigRegion
import Derived.ChangeAlike
namespace Go.Proofs.Ytbdonjapcpfgiaa
set_option linter.unusedVariables false
set_option linter.unusedSimpArgs false
open Go.ChangeShapes Go.WideShapes Go.ChangeAt Go.RowKit
theorem slice_nil {w : World} {t e : TypeId} {a : Option Addr} {n c : Nat} (h : Arg Try.prog w t (.slice a n c)) (hu : Try.prog.underlying t = some (.slice e)) : a = none → c = 0 := by
  obtain ⟨H, enc, base, d, p, ho, ⟨fuel, hf⟩, hw⟩ := h
  rcases Go.Deep.open_slice hu hf with ⟨hcs, hx⟩ | ⟨a', len', cap', m, n', D, Pl, hcs, _⟩
  · simp [Value.cells] at hcs
    exact fun _ => hcs.2.2
  · simp [Value.cells] at hcs
    intro ha
    rw [ha] at hcs
    cases hcs.1
theorem fits_of {L : List Int} (h : ∀ z ∈ L, fits z = true) : ∀ k, fits (L.getD k 0) = true := fun k => by
  rw [List.getD_eq_getElem?_getD]
  cases hk : L[k]? with
  | none => rfl
  | some z => exact h z (List.mem_of_getElem? hk)
theorem withTo_mem {L : List Int} {x : Int} {z : Int} : ∀ {n : Nat}, z ∈ withTo L x n → z ∈ L
  | 0, h => by cases h
  | n + 1, h => by
    unfold withTo at h
    split at h
    · exact withTo_mem h
    · rcases List.mem_append.1 h with h | h
      · exact withTo_mem h
      · exact rAt_mem h
theorem putC_mem {L cv : List Int} {n : Nat} {z : Int} (h : z ∈ putC L n cv) : z ∈ L ∨ z ∈ cv := by
  unfold putC at h
  rcases List.mem_append.1 h with h | h
  · rcases List.mem_append.1 h with h | h
    · exact Or.inl (List.mem_of_mem_take h)
    · exact Or.inr h
  · exact Or.inl (List.mem_of_mem_drop h)
set_option maxRecDepth 100000 in
set_option maxHeartbeats 8000000 in
theorem lists07 (a : Option Addr) (n0 c : Nat) (L0 cv : List Int) (p q x : Int) (w : World) (HS0 : Sl w a n0 9 (ints L0)) (hnc : n0 ≤ c) (hnil : a = none → c = 0) (hf0 : ∀ z ∈ L0, fits z = true) (lc : cv.length = 9) (hfc : ∀ z ∈ cv, fits z = true) (hp : fits p = true) (hq : fits q = true) (hx : fits x = true) :
    Calls Try.prog 4 #[.slice a n0 c, .agg (ints cv).toArray, .agg #[.int .i64 p, .int .i64 q], .int .i64 x] w fun e w' => e = .returned (.bool true) ∧ Below w.heap.size w w' := by
  obtain ⟨i0, hi0, hz0, hz1, hz2⟩ := info_partsP chg_infoP
  have HINF := Lib.hid hi0
  have HB := Lib.hid (((Below.refl w.heap.size w).alloc (Nat.le_refl _) (.cells (ints cv).toArray 25)).alloc (by simp) (.cells #[.int .i64 p, .int .i64 q] 23))
  have A0 : Hid (Blk ((w.alloc (.cells (ints cv).toArray 25)).alloc (.cells #[.int .i64 p, .int .i64 q] 23)) w.heap.size (ints cv) 25) := Lib.hid ((show Blk (w.alloc (.cells (ints cv).toArray 25)) w.heap.size (ints cv) 25 from Blk.new w (ints cv).toArray 25).alloc _)
  have I0 : Hid (Blk ((w.alloc (.cells (ints cv).toArray 25)).alloc (.cells #[.int .i64 p, .int .i64 q] 23)) (w.heap.size + 1) (ints [p, q]) 23) := Lib.hid (by have := Blk.new (w.alloc (.cells (ints cv).toArray 25)) #[.int .i64 p, .int .i64 q] 23; simpa [ints] using this)
  have hm : min n0 40 ≤ n0 := Nat.min_le_left _ _
  have hm40 : min n0 40 ≤ 40 := Nat.min_le_right _ _
  have FW := Lib.hid (fun w => few7_any a n0 c w hnc)
  have S0 := Lib.hid ((HS0.keep HB.out).fewG hm)
  have FL : Hid (∀ z ∈ L0.take (min n0 40 * 9), fits z = true) := Lib.hid fun z hz => hf0 z (List.mem_of_mem_take hz)
  generalize L0.take (min n0 40 * 9) = L at *
  generalize min n0 40 = n at *
  have hncc : n ≤ c := by omega
  have FK := Lib.hid (fits_of FL.out)
  have ER : Hid (((ints cv).drop 0).take (ints cv).length = ints cv) := Lib.hid (by simp)
  have TA : Hid (RowT 25 (ints cv).length) := Lib.hid (by rw [ints_len, lc]; exact rowChg)
  have HAL := Lib.hid (fun w' => alive07 w')
  have FP : Hid (∀ k, fits ((putC L n cv).getD k 0) = true) := Lib.hid (fits_of fun z hz => (putC_mem hz).elim (FL.out z) (hfc z))
  have FWT : Hid (∀ k, fits ((withTo L x n).getD k 0) = true) := Lib.hid (fits_of fun z hz => FL.out z (withTo_mem hz))
  have NIL := Lib.hid hnil
  clear hm HS0 hi0 hf0 hfc
  go_enter Try.func4, Try.ntmps4
  go_upto_region 1 with fail
  generalize hg0 : w.heap.size = g0 at *
  have HG0 := Lib.hid hg0
  generalize ((w.alloc (.cells (ints cv).toArray 25)).alloc (.cells #[.int .i64 p, .int .i64 q] 23)) = w1 at *
  clear hg0
  have AL1 := Lib.hid (HAL.out w1)
  go_wp2_with fail
  refine AL1.out.mono ?_
  rintro e w2 ⟨rfl, hb⟩
  have HB2 := Lib.hid (HB.out.trans (hb.mono (HG0.out ▸ HB.out.size)))
  have A2 := Lib.hid (A0.out.keep hb A0.out.lt)
  have I2 := Lib.hid (I0.out.keep hb I0.out.lt)
  have S2 := Lib.hid (S0.out.keep hb)
  clear hb HB A0 I0 S0 AL1 HAL
  go_wp2_with fail
  refine (FW.out _).mono ?_
  rintro e w3 ⟨rfl, rfl⟩
  clear FW
  have HBm := Lib.hid (HB2.out.alloc (HG0.out ▸ HB2.out.size) (.cells #[] 25))
  have HOm : Hid ((w2.alloc (.cells #[] 25)).ownsRow w2.heap.size 25 9 (.slice (some ⟨w2.heap.size, 0, none⟩) 0 0) 0 []) := Lib.hid (World.ownsRow_made w2 #[] 0 (Nat.le_refl _) (by decide) rfl)
  have hal := (Below.refl w2.heap.size w2).alloc (Nat.le_refl _) (.cells #[] 25)
  have Am := Lib.hid (A2.out.keep hal A2.out.lt)
  have Im := Lib.hid (I2.out.keep hal I2.out.lt)
  have Sm := Lib.hid (S2.out.keep hal)
  have OL : Hid (∀ u ∈ ints L, u.oneCell' = true) := Lib.hid fun u hu => ints_one hu
  have hsz : w2.heap.size ≤ (w2.alloc (.cells #[] 25)).heap.size := hal.size
  have HSZ := Lib.hid hsz
  have LTA := Lib.hid A2.out.lt
  have LTI := Lib.hid I2.out.lt
  have CA : Hid (n = 0 ∨ ∀ ad, a = some ad → ad.block < w2.heap.size) := Lib.hid (by
    rcases S2.out.2 with h | ⟨b, off, e2, hlt, _⟩
    · exact Or.inl h
    · exact Or.inr (fun ad e => by rw [e] at e2; cases e2; exact hlt))
  clear hsz hal A2 I2 S2
  go_upto_region 5 with (at_builtin; refine app_any _ _ 28 25 i0 (.agg #[.int .i64 0, .int .i64 0, .int .i64 0, .int .i64 0, .int .i64 0, .int .i64 0, .int .i64 0, .int .i64 0, .int .i64 0]) 9 72 Try.underlying28 HINF.out hz0 hz1 hz2 rfl (by decide) rfl rfl rfl HOm.out rfl Sm.out NIL.out OL.out (by simp only [maxLen]; omega) (by omega) HSZ.out ?_)
  intro v4 w4 hown hb
  have A4 := Lib.hid (Am.out.keepB hb LTA.out)
  have I4 := Lib.hid (Im.out.keepB hb LTI.out)
  have S4 := Lib.hid (slKeepB Sm.out CA.out hb)
  have HB4 := Lib.hid (HBm.out.trans (hb.mono (HG0.out ▸ HB2.out.size)))
  obtain ⟨ao, co, rfl, hso, hnilo, hnco⟩ := own_slR hown
  have SO4 := Lib.hid hso
  have NO := Lib.hid hnilo
  clear hown hb hso hnilo HBm HOm Am Im Sm HSZ LTA LTI CA OL HB2
  have HL : Hid (L.length = n * 9) := Lib.hid (by have := S4.out.1; rwa [ints_len] at this)
  have ST : Hid (∀ i, lastC L (i + 1) = max (lastC L i) (L.getD (i * 9 + 2) 0)) := Lib.hid (fun i => rfl)
  go_upto_region 7 with fail
  go_loopg [10, 11] n (fun q' s10 s11 wr => ∃ (i : Nat), q' + i = n ∧ s11 = .int .i64 i ∧ s10 = .int .i64 (lastC L i) ∧ w4 = wr)
  case atStart => exact ⟨0, rfl, rfl, rfl, rfl⟩
  case round =>
    obtain ⟨i, hqi, rfl, rfl, rfl⟩ := hrel
    by_cases hi : i < n
    · have hin : (i : Int) < n := by omega
      have hi0 : (0 : Int) ≤ i := by omega
      obtain ⟨b, off, rfl, hlc, hra⟩ := rAt_at S4.out hi
      have hcl : w4.cell? ⟨b, off + i * 9 + 2, none⟩ = some (.int .i64 (L.getD (i * 9 + 2) 0)) := hra 2 _ (by rw [ints_get _ _ (by rw [rAt_len HL.out hi]; omega), rAt_get (by decide)])
      have S1 := Lib.hid (ST.out i)
      generalize L.getD (i * 9 + 2) 0 = z at *
      generalize lastC L i = y at *
      clear hra
      go_wp2_with fail
      go_roundg (gk - 1)
      case measure => omega
      case rel => exact ⟨i + 1, by omega, by go_num, by rw [S1.out], rfl⟩
    · have hin : ¬ (i : Int) < n := by omega
      have hie : i = n := by omega
      subst hie
      clear hi hqi
      have hnn : i ≤ 1000 := by omega
      have ra := A4.out.range 0 (ints cv) ER.out
      have TA2 := TA.out
      have PT := Lib.hid (sput_any ao i co L cv w4 SO4 NO.out hnco hnn lc)
      have WT := Lib.hid (fun w' (hb : Below w4.heap.size w4 w') => swithS_any ao i co L x w' (Lib.hid (SO4.out.keep hb)) NO.out hnn hx)
      go_wp2_with (first
        | ((with_reducible refine ld_row ra TA2 ?_ ?_ ?_); (· rfl); (· rfl); (simp only [Act.put, List.setIfInBounds_toArray, List.set_cons_zero, List.set_cons_succ])))
      refine PT.out.mono ?_
      rintro e w5 ⟨vp, rfl, hownp, hb⟩
      obtain ⟨ap, cp, rfl, hsp, _, _⟩ := own_slR hownp
      have SP5 := Lib.hid hsp
      have HB5 := Lib.hid (HB4.out.trans (hb.mono (HG0.out ▸ HB4.out.size)))
      have WT5 := Lib.hid (WT.out w5 hb)
      have A5 := Lib.hid (A4.out.keep hb A4.out.lt)
      have I5 := Lib.hid (I4.out.keep hb I4.out.lt)
      have S5 := Lib.hid (S4.out.keep hb)
      have SO5 := Lib.hid (SO4.out.keep hb)
      clear hownp hb hsp PT WT HB4 A4 I4 S4 SO4 ra
      go_wp2_with fail
      refine WT5.out.mono ?_
      rintro e w7 ⟨vo, rfl, ⟨aw, cw, rfl, hsw, _, _⟩, hb⟩
      have SW := Lib.hid hsw
      have HB7 := Lib.hid (HB5.out.trans (hb.mono (HG0.out ▸ HB5.out.size)))
      have HA := Lib.hid (A5.out.keep hb A5.out.lt)
      have HI := Lib.hid (I5.out.keep hb I5.out.lt)
      have SL := Lib.hid (S5.out.keep hb)
      have SO := Lib.hid (SO5.out.keep hb)
      have SPT := Lib.hid (SP5.out.keep hb)
      clear hb hsw WT5 HB5 A5 I5 S5 SO5 SP5
      have CP := Lib.hid (fun w' (hb : Below w7.heap.size w7 w') => rputS_any a i c L cv w' (Lib.hid (SL.out.keep hb)) NIL.out hncc hnn lc)
      have CW := Lib.hid (fun w' (hb : Below w7.heap.size w7 w') => rwithS_any a i c L x w' (Lib.hid (SL.out.keep hb)) hnn)
      have CF := Lib.hid (fun w' (hb : Below w7.heap.size w7 w') => sfind_any ao i co L p q w' (Lib.hid (SO.out.keep hb)) FK hp hq hnn)
      have CRF := Lib.hid (fun w' (hb : Below w7.heap.size w7 w') => rfindS_any a i c L p q w' (Lib.hid (SL.out.keep hb)) FK hp hq hnn)
      have CL := Lib.hid (fun w' (hb : Below w7.heap.size w7 w') => slast_any ao i co L w' (Lib.hid (SO.out.keep hb)) hnn)
      have CC3 := Lib.hid (fun w' (hb : Below w7.heap.size w7 w') => changes_sameS ao a i co c L w' (SO.out.keep hb) (SL.out.keep hb) (by omega) FK.out)
      have CC1 := Lib.hid (fun w' ar cr (hb : Below w7.heap.size w7 w') (hs : Sl w' ar (i + 1) 9 (ints (putC L i cv))) => changes_sameS ap ar (i + 1) cp cr (putC L i cv) w' (SPT.out.keep hb) hs (by omega) FP.out)
      have hcn := cntTo7_le x i
      have CC2 := Lib.hid (fun w' ar cr (hb : Below w7.heap.size w7 w') (hs : Sl w' ar (cntTo7 x i) 9 (ints (withTo L x i))) => changes_sameS aw ar (cntTo7 x i) cw cr (withTo L x i) w' (SW.out.keep hb) hs (by omega) FWT.out)
      clear SW SPT SL SO FWT FP NIL NO hp hq hx
      generalize idxC L p q i = ix at *
      generalize lastC L i = ls at *
      generalize cntTo7 x i = cn at *
      go_upto_region 11 with fail
      refine held_begin (fun w' => Below w7.heap.size w7 w') 33 [false, false, false, false, false, false, false, false, false, false, false, false, false, false, false, false, false, false, false, false, false, false, false, false, false, false, false, false, false, false, false, false, false] (by kernel_rfl) rfl (by rfl) ?_
      have hHeld : Below w7.heap.size w7 w7.drew := (Below.refl _ _).drew
      refine held_take (v := ?_) 0 40 [true, false, false, false, false, false, false, false, false, false, false, false, false, false, false, false, false, false, false, false, false, false, false, false, false, false, false, false, false, false, false, false, false] rfl (by rfl) (by rfl) (by kernel_rfl) (by kernel_rfl) (by kernel_rfl) (by rfl) (fun _ _ _ h => h) ?_ hHeld ?_
      rotate_left
      · intro w hSw; go_simp <;> with_reducible rfl
      simp only [Act.put, List.setIfInBounds_toArray, List.set_cons_zero, List.set_cons_succ]
      refine held_take (v := ?_) 1 41 [true, true, false, false, false, false, false, false, false, false, false, false, false, false, false, false, false, false, false, false, false, false, false, false, false, false, false, false, false, false, false, false, false] rfl (by rfl) (by rfl) (by kernel_rfl) (by kernel_rfl) (by kernel_rfl) (by rfl) (fun _ _ _ h => h) ?_ hHeld ?_
      rotate_left
      · intro w hSw; go_simp <;> with_reducible rfl
      simp only [Act.put, List.setIfInBounds_toArray, List.set_cons_zero, List.set_cons_succ]
      refine held_take (v := .agg (ints cv).toArray) 2 42 [true, true, true, false, false, false, false, false, false, false, false, false, false, false, false, false, false, false, false, false, false, false, false, false, false, false, false, false, false, false, false, false, false] rfl (by rfl) (by rfl) (by kernel_rfl) (by kernel_rfl) (by kernel_rfl) (by rfl) (fun _ _ _ h => h) (fun w' h => run_op_load rfl rfl ((HA.out.keep h HA.out.lt).range 0 (ints cv) ER.out) Try.underlying25 rfl TA.out.2) hHeld ?_
      simp only [Act.put, List.setIfInBounds_toArray, List.set_cons_zero, List.set_cons_succ]
      refine held_call 3 43 [true, true, true, true, false, false, false, false, false, false, false, false, false, false, false, false, false, false, false, false, false, false, false, false, false, false, false, false, false, false, false, false, false] (by kernel_rfl) rfl (by rfl) (by rfl) (by rfl) (by go_simp) ((CP.out _ hHeld).mono ?_)
      rintro e w4 ⟨v4, rfl, hown4, hb4⟩
      obtain ⟨a4, c4, rfl, hs4, _, _⟩ := own_slR hown4
      refine ⟨_, rfl, hHeld.trans (hb4.mono hHeld.size), fun hHeld => ?_⟩
      simp only [Act.put, List.setIfInBounds_toArray, List.set_cons_zero, List.set_cons_succ]
      have K4 := CC1.out _ a4 c4 hHeld hs4
      clear hown4 hs4
      refine held_call 4 44 [true, true, true, true, true, false, false, false, false, false, false, false, false, false, false, false, false, false, false, false, false, false, false, false, false, false, false, false, false, false, false, false, false] (by kernel_rfl) rfl (by rfl) (by rfl) (by rfl) (by go_simp) ((K4).mono ?_)
      rintro e w4 ⟨rfl, hb4⟩
      refine ⟨_, rfl, hHeld.trans (hb4.mono hHeld.size), fun hHeld => ?_⟩
      simp only [Act.put, List.setIfInBounds_toArray, List.set_cons_zero, List.set_cons_succ]
      clear K4
      refine held_take (v := ?_) 5 45 [true, true, true, true, true, true, false, false, false, false, false, false, false, false, false, false, false, false, false, false, false, false, false, false, false, false, false, false, false, false, false, false, false] rfl (by rfl) (by rfl) (by kernel_rfl) (by kernel_rfl) (by kernel_rfl) (by rfl) (fun _ _ _ h => h) ?_ hHeld ?_
      rotate_left
      · intro w hSw; go_simp <;> with_reducible rfl
      simp only [Act.put, List.setIfInBounds_toArray, List.set_cons_zero, List.set_cons_succ]
      refine held_take (v := ?_) 6 46 [true, true, true, true, true, true, true, false, false, false, false, false, false, false, false, false, false, false, false, false, false, false, false, false, false, false, false, false, false, false, false, false, false] rfl (by rfl) (by rfl) (by kernel_rfl) (by kernel_rfl) (by kernel_rfl) (by rfl) (fun _ _ _ h => h) ?_ hHeld ?_
      rotate_left
      · intro w hSw; go_simp <;> with_reducible rfl
      simp only [Act.put, List.setIfInBounds_toArray, List.set_cons_zero, List.set_cons_succ]
      refine held_take (v := ?_) 7 47 [true, true, true, true, true, true, true, true, false, false, false, false, false, false, false, false, false, false, false, false, false, false, false, false, false, false, false, false, false, false, false, false, false] rfl (by rfl) (by rfl) (by kernel_rfl) (by kernel_rfl) (by kernel_rfl) (by rfl) (fun _ _ _ h => h) ?_ hHeld ?_
      rotate_left
      · intro w hSw; go_simp <;> with_reducible rfl
      simp only [Act.put, List.setIfInBounds_toArray, List.set_cons_zero, List.set_cons_succ]
      refine held_take (v := ?_) 8 48 [true, true, true, true, true, true, true, true, true, false, false, false, false, false, false, false, false, false, false, false, false, false, false, false, false, false, false, false, false, false, false, false, false] rfl (by rfl) (by rfl) (by kernel_rfl) (by kernel_rfl) (by kernel_rfl) (by rfl) (fun _ _ _ h => h) ?_ hHeld ?_
      rotate_left
      · intro w hSw; go_simp <;> with_reducible rfl
      simp only [Act.put, List.setIfInBounds_toArray, List.set_cons_zero, List.set_cons_succ]
      refine held_call 9 49 [true, true, true, true, true, true, true, true, true, true, false, false, false, false, false, false, false, false, false, false, false, false, false, false, false, false, false, false, false, false, false, false, false] (by kernel_rfl) rfl (by rfl) (by rfl) (by rfl) (by go_simp) ((CW.out _ hHeld).mono ?_)
      rintro e w4 ⟨v4, rfl, hown4, hb4⟩
      obtain ⟨a5, c5, rfl, hs4, _, _⟩ := own_slR hown4
      refine ⟨_, rfl, hHeld.trans (hb4.mono hHeld.size), fun hHeld => ?_⟩
      simp only [Act.put, List.setIfInBounds_toArray, List.set_cons_zero, List.set_cons_succ]
      have K4 := CC2.out _ a5 c5 hHeld hs4
      clear hown4 hs4
      refine held_call 10 50 [true, true, true, true, true, true, true, true, true, true, true, false, false, false, false, false, false, false, false, false, false, false, false, false, false, false, false, false, false, false, false, false, false] (by kernel_rfl) rfl (by rfl) (by rfl) (by rfl) (by go_simp) ((K4).mono ?_)
      rintro e w4 ⟨rfl, hb4⟩
      refine ⟨_, rfl, hHeld.trans (hb4.mono hHeld.size), fun hHeld => ?_⟩
      simp only [Act.put, List.setIfInBounds_toArray, List.set_cons_zero, List.set_cons_succ]
      clear K4
      refine held_take (v := ?_) 11 51 [true, true, true, true, true, true, true, true, true, true, true, true, false, false, false, false, false, false, false, false, false, false, false, false, false, false, false, false, false, false, false, false, false] rfl (by rfl) (by rfl) (by kernel_rfl) (by kernel_rfl) (by kernel_rfl) (by rfl) (fun _ _ _ h => h) ?_ hHeld ?_
      rotate_left
      · intro w hSw; go_simp <;> with_reducible rfl
      simp only [Act.put, List.setIfInBounds_toArray, List.set_cons_zero, List.set_cons_succ]
      refine held_take (v := ?_) 12 52 [true, true, true, true, true, true, true, true, true, true, true, true, true, false, false, false, false, false, false, false, false, false, false, false, false, false, false, false, false, false, false, false, false] rfl (by rfl) (by rfl) (by kernel_rfl) (by kernel_rfl) (by kernel_rfl) (by rfl) (fun _ _ _ h => h) ?_ hHeld ?_
      rotate_left
      · intro w hSw; go_simp <;> with_reducible rfl
      simp only [Act.put, List.setIfInBounds_toArray, List.set_cons_zero, List.set_cons_succ]
      refine held_take (v := ?_) 13 53 [true, true, true, true, true, true, true, true, true, true, true, true, true, true, false, false, false, false, false, false, false, false, false, false, false, false, false, false, false, false, false, false, false] rfl (by rfl) (by rfl) (by kernel_rfl) (by kernel_rfl) (by kernel_rfl) (by rfl) (fun _ _ _ h => h) ?_ hHeld ?_
      rotate_left
      · intro w hSw; go_simp <;> with_reducible rfl
      simp only [Act.put, List.setIfInBounds_toArray, List.set_cons_zero, List.set_cons_succ]
      refine held_take (v := .agg #[.int .i64 p, .int .i64 q]) 14 54 [true, true, true, true, true, true, true, true, true, true, true, true, true, true, true, false, false, false, false, false, false, false, false, false, false, false, false, false, false, false, false, false, false] rfl (by rfl) (by rfl) (by kernel_rfl) (by kernel_rfl) (by kernel_rfl) (by rfl) (fun _ _ _ h => h) (fun w' h => run_op_load rfl rfl ((HI.out.keep h HI.out.lt).range 0 (ints [p, q]) rfl) Try.underlying23 rfl rfl) hHeld ?_
      simp only [Act.put, List.setIfInBounds_toArray, List.set_cons_zero, List.set_cons_succ]
      refine held_take (v := ?_) 16 56 [true, true, true, true, true, true, true, true, true, true, true, true, true, true, true, false, true, false, false, false, false, false, false, false, false, false, false, false, false, false, false, false, false] rfl (by rfl) (by rfl) (by kernel_rfl) (by kernel_rfl) (by kernel_rfl) (by rfl) (fun _ _ _ h => h) ?_ hHeld ?_
      rotate_left
      · intro w hSw; go_simp <;> with_reducible rfl
      simp only [Act.put, List.setIfInBounds_toArray, List.set_cons_zero, List.set_cons_succ]
      refine held_take (v := .agg #[.int .i64 p, .int .i64 q]) 17 57 [true, true, true, true, true, true, true, true, true, true, true, true, true, true, true, false, true, true, false, false, false, false, false, false, false, false, false, false, false, false, false, false, false] rfl (by rfl) (by rfl) (by kernel_rfl) (by kernel_rfl) (by kernel_rfl) (by rfl) (fun _ _ _ h => h) (fun w' h => run_op_load rfl rfl ((HI.out.keep h HI.out.lt).range 0 (ints [p, q]) rfl) Try.underlying23 rfl rfl) hHeld ?_
      simp only [Act.put, List.setIfInBounds_toArray, List.set_cons_zero, List.set_cons_succ]
      refine held_call 15 55 [true, true, true, true, true, true, true, true, true, true, true, true, true, true, true, true, true, true, false, false, false, false, false, false, false, false, false, false, false, false, false, false, false] (by kernel_rfl) rfl (by rfl) (by rfl) (by rfl) (by go_simp) ((CF.out _ hHeld).mono ?_)
      rintro e w4 ⟨rfl, hb4⟩
      refine ⟨_, rfl, hHeld.trans (hb4.mono hHeld.size), fun hHeld => ?_⟩
      simp only [Act.put, List.setIfInBounds_toArray, List.set_cons_zero, List.set_cons_succ]
      refine held_call 18 58 [true, true, true, true, true, true, true, true, true, true, true, true, true, true, true, true, true, true, true, false, false, false, false, false, false, false, false, false, false, false, false, false, false] (by kernel_rfl) rfl (by rfl) (by rfl) (by rfl) (by go_simp) ((CRF.out _ hHeld).mono ?_)
      rintro e w4 ⟨rfl, hb4⟩
      refine ⟨_, rfl, hHeld.trans (hb4.mono hHeld.size), fun hHeld => ?_⟩
      simp only [Act.put, List.setIfInBounds_toArray, List.set_cons_zero, List.set_cons_succ]
      refine held_take (v := ?_) 19 59 [true, true, true, true, true, true, true, true, true, true, true, true, true, true, true, true, true, true, true, true, false, false, false, false, false, false, false, false, false, false, false, false, false] rfl (by rfl) (by rfl) (by kernel_rfl) (by kernel_rfl) (by kernel_rfl) (by rfl) (fun _ _ _ h => h) ?_ hHeld ?_
      rotate_left
      · intro w hSw; go_simp <;> with_reducible rfl
      simp only [Act.put, List.setIfInBounds_toArray, List.set_cons_zero, List.set_cons_succ]
      refine held_take (v := ?_) 20 60 [true, true, true, true, true, true, true, true, true, true, true, true, true, true, true, true, true, true, true, true, true, false, false, false, false, false, false, false, false, false, false, false, false] rfl (by rfl) (by rfl) (by kernel_rfl) (by kernel_rfl) (by kernel_rfl) (by rfl) (fun _ _ _ h => h) ?_ hHeld ?_
      rotate_left
      · intro w hSw; go_simp <;> with_reducible rfl
      simp only [Act.put, List.setIfInBounds_toArray, List.set_cons_zero, List.set_cons_succ]
      refine held_take (v := ?_) 21 61 [true, true, true, true, true, true, true, true, true, true, true, true, true, true, true, true, true, true, true, true, true, true, false, false, false, false, false, false, false, false, false, false, false] rfl (by rfl) (by rfl) (by kernel_rfl) (by kernel_rfl) (by kernel_rfl) (by rfl) (fun _ _ _ h => h) ?_ hHeld ?_
      rotate_left
      · intro w hSw; go_simp <;> with_reducible rfl
      simp only [Act.put, List.setIfInBounds_toArray, List.set_cons_zero, List.set_cons_succ]
      refine held_take (v := ?_) 22 62 [true, true, true, true, true, true, true, true, true, true, true, true, true, true, true, true, true, true, true, true, true, true, true, false, false, false, false, false, false, false, false, false, false] rfl (by rfl) (by rfl) (by kernel_rfl) (by kernel_rfl) (by kernel_rfl) (by rfl) (fun _ _ _ h => h) ?_ hHeld ?_
      rotate_left
      · intro w hSw; go_simp <;> with_reducible rfl
      simp only [Act.put, List.setIfInBounds_toArray, List.set_cons_zero, List.set_cons_succ]
      refine held_take (v := ?_) 24 64 [true, true, true, true, true, true, true, true, true, true, true, true, true, true, true, true, true, true, true, true, true, true, true, false, true, false, false, false, false, false, false, false, false] rfl (by rfl) (by rfl) (by kernel_rfl) (by kernel_rfl) (by kernel_rfl) (by rfl) (fun _ _ _ h => h) ?_ hHeld ?_
      rotate_left
      · intro w hSw; go_simp <;> with_reducible rfl
      simp only [Act.put, List.setIfInBounds_toArray, List.set_cons_zero, List.set_cons_succ]
      refine held_call 23 63 [true, true, true, true, true, true, true, true, true, true, true, true, true, true, true, true, true, true, true, true, true, true, true, true, true, false, false, false, false, false, false, false, false] (by kernel_rfl) rfl (by rfl) (by rfl) (by rfl) (by go_simp) ((CL.out _ hHeld).mono ?_)
      rintro e w4 ⟨rfl, hb4⟩
      refine ⟨_, rfl, hHeld.trans (hb4.mono hHeld.size), fun hHeld => ?_⟩
      simp only [Act.put, List.setIfInBounds_toArray, List.set_cons_zero, List.set_cons_succ]
      refine held_take (v := ?_) 25 65 [true, true, true, true, true, true, true, true, true, true, true, true, true, true, true, true, true, true, true, true, true, true, true, true, true, true, false, false, false, false, false, false, false] rfl (by rfl) (by rfl) (by kernel_rfl) (by kernel_rfl) (by kernel_rfl) (by rfl) (fun _ _ _ h => h) ?_ hHeld ?_
      rotate_left
      · intro w hSw; go_simp <;> with_reducible rfl
      simp only [Act.put, List.setIfInBounds_toArray, List.set_cons_zero, List.set_cons_succ]
      refine held_take (v := ?_) 26 66 [true, true, true, true, true, true, true, true, true, true, true, true, true, true, true, true, true, true, true, true, true, true, true, true, true, true, true, false, false, false, false, false, false] rfl (by rfl) (by rfl) (by kernel_rfl) (by kernel_rfl) (by kernel_rfl) (by rfl) (fun _ _ _ h => h) ?_ hHeld ?_
      rotate_left
      · intro w hSw; go_simp <;> with_reducible rfl
      simp only [Act.put, List.setIfInBounds_toArray, List.set_cons_zero, List.set_cons_succ]
      refine held_take (v := ?_) 27 67 [true, true, true, true, true, true, true, true, true, true, true, true, true, true, true, true, true, true, true, true, true, true, true, true, true, true, true, true, false, false, false, false, false] rfl (by rfl) (by rfl) (by kernel_rfl) (by kernel_rfl) (by kernel_rfl) (by rfl) (fun _ _ _ h => h) ?_ hHeld ?_
      rotate_left
      · intro w hSw; go_simp <;> with_reducible rfl
      simp only [Act.put, List.setIfInBounds_toArray, List.set_cons_zero, List.set_cons_succ]
      refine held_take (v := ?_) 28 68 [true, true, true, true, true, true, true, true, true, true, true, true, true, true, true, true, true, true, true, true, true, true, true, true, true, true, true, true, true, false, false, false, false] rfl (by rfl) (by rfl) (by kernel_rfl) (by kernel_rfl) (by kernel_rfl) (by rfl) (fun _ _ _ h => h) ?_ hHeld ?_
      rotate_left
      · intro w hSw; go_simp <;> with_reducible rfl
      simp only [Act.put, List.setIfInBounds_toArray, List.set_cons_zero, List.set_cons_succ]
      refine held_take (v := ?_) 29 69 [true, true, true, true, true, true, true, true, true, true, true, true, true, true, true, true, true, true, true, true, true, true, true, true, true, true, true, true, true, true, false, false, false] rfl (by rfl) (by rfl) (by kernel_rfl) (by kernel_rfl) (by kernel_rfl) (by rfl) (fun _ _ _ h => h) ?_ hHeld ?_
      rotate_left
      · intro w hSw; go_simp <;> with_reducible rfl
      simp only [Act.put, List.setIfInBounds_toArray, List.set_cons_zero, List.set_cons_succ]
      refine held_call 30 70 [true, true, true, true, true, true, true, true, true, true, true, true, true, true, true, true, true, true, true, true, true, true, true, true, true, true, true, true, true, true, true, false, false] (by kernel_rfl) rfl (by rfl) (by rfl) (by rfl) (by go_simp) ((CC3.out _ hHeld).mono ?_)
      rintro e w4 ⟨rfl, hb4⟩
      refine ⟨_, rfl, hHeld.trans (hb4.mono hHeld.size), fun hHeld => ?_⟩
      simp only [Act.put, List.setIfInBounds_toArray, List.set_cons_zero, List.set_cons_succ]
      refine held_take (v := ?_) 31 71 [true, true, true, true, true, true, true, true, true, true, true, true, true, true, true, true, true, true, true, true, true, true, true, true, true, true, true, true, true, true, true, true, false] rfl (by rfl) (by rfl) (by kernel_rfl) (by kernel_rfl) (by kernel_rfl) (by rfl) (fun _ _ _ h => h) ?_ hHeld ?_
      rotate_left
      · intro w hSw; go_simp <;> with_reducible rfl
      simp only [Act.put, List.setIfInBounds_toArray, List.set_cons_zero, List.set_cons_succ]
      refine held_take (v := ?_) 32 8 [true, true, true, true, true, true, true, true, true, true, true, true, true, true, true, true, true, true, true, true, true, true, true, true, true, true, true, true, true, true, true, true, true] rfl (by rfl) (by rfl) (by kernel_rfl) (by kernel_rfl) (by kernel_rfl) (by rfl) (fun _ _ _ h => h) ?_ hHeld ?_
      rotate_left
      · intro w hSw; go_simp <;> with_reducible rfl
      simp only [Act.put, List.setIfInBounds_toArray, List.set_cons_zero, List.set_cons_succ]
      refine held_done (by kernel_rfl) ?_
      have HB9 := Lib.hid (HB7.out.trans (hHeld.mono (HG0.out ▸ HB7.out.size)))
      clear hHeld
      go_wp2_with fail
      go_ret
      have hge := HG0.out
      subst hge
      exact ⟨rfl, HB9.out⟩
theorem lists07_law (v0 v1 v2 v3 : Value) (w : World) (h0 : Arg Try.prog w 28 v0) (h1 : Arg Try.prog w 25 v1) (h2 : Arg Try.prog w 23 v2) (h3 : Arg Try.prog w 3 v3) : Calls Try.prog 4 #[v0, v1, v2, v3] w fun e w' => e = .returned (.bool true) ∧ Below w.heap.size w w' := by
  obtain ⟨a, n0, c, L0, rfl, hnc, _, hs0, hf0⟩ := h0.rowsG (s := 9) (f := 4) Try.underlying28 flatCgS (by kernel_rfl) (by decide)
  have hnil := slice_nil h0 Try.underlying28
  obtain ⟨cs, rfl, k1⟩ := h1.flat_struct Try.underlying25 flatCgS
  obtain ⟨cv, e1, lc, hfc⟩ : ∃ cv : List Int, cs.toList = ints cv ∧ cv.length = 9 ∧ ∀ z ∈ cv, fits z = true := by
    have hE : ∃ cv : List Int, cs.toList = ints cv ∧ ∀ z ∈ cv, (Lit.int .i64 z).wf = true := by
      refine all_intsG fun u hu => ?_
      obtain ⟨j, hj, rfl⟩ := List.getElem_of_mem hu
      obtain ⟨k, hk1, hk⟩ := k1.get (List.getElem?_eq_getElem hj)
      rw [List.getElem?_replicate] at hk1
      split at hk1
      · obtain rfl := Option.some.inj hk1
        exact hk
      · cases hk1
    obtain ⟨cv, e, h⟩ := hE
    have hl := k1.len
    rw [e, ints_len, List.length_replicate] at hl
    exact ⟨cv, e, hl, fun z hz => fits_wf (h z hz)⟩
  have e2 : cs = (ints cv).toArray := by rw [← e1, Array.toArray_toList]
  subst e2
  obtain ⟨ds, rfl, k2⟩ := h2.flat_struct Try.underlying23 flatIdS
  obtain ⟨p, q, e3, f1, f2⟩ : ∃ p q, ds = #[.int .i64 p, .int .i64 q] ∧ fits p = true ∧ fits q = true := by
    have hl := k2.len
    obtain ⟨l⟩ := ds
    match l, hl, k2 with
    | [x, y], _, h =>
      obtain ⟨⟨p, rfl, f1⟩, ⟨q, rfl, f2⟩, _⟩ := h
      exact ⟨p, q, rfl, fits_wf f1, fits_wf f2⟩
  subst e3
  obtain ⟨x, rfl, hx⟩ := h3.int Try.underlying3
  exact lists07 a n0 c L0 cv p q x w hs0 hnc hnil hf0 lc hfc f1 f2 (fits_wf hx)
end Go.Proofs.Ytbdonjapcpfgiaa
