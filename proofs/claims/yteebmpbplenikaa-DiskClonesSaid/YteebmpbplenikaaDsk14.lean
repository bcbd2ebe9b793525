/- The statements of disks: one that is alive; DiskClones. -/
import Derived.Test.YteebmpbplenikaaDsk13
import Derived.RegionTactic
import Derived.BigRegion
import Derived.ChangeAlike
import Derived.Laws.IdiomCopy
import Derived.Deep.LoopGhost
import Derived.Deep.DeepCutAuto
namespace Go.Proofs.Yteebmpbplenikaa
set_option linter.unusedVariables false
set_option linter.unusedSimpArgs false
open Go.ChangeShapes Go.WideShapes Go.ChangeAt Go.RowKit
set_option maxRecDepth 100000 in
set_option maxHeartbeats 4000000 in
theorem clones_walk (v0 v1 v2 v3 : Value) (w : World) (h0 : Arg Try.prog w 3 v0) (h1 : Arg Try.prog w 22 v1) (h2 : Arg Try.prog w 22 v2) (h3 : Arg Try.prog w 22 v3) : Calls Try.prog 4 #[v0, v1, v2, v3] w fun e w' => e = .returned (.bool true) ∧ Below w.heap.size w w' := by
  obtain ⟨z, rfl, _⟩ := h0.int Try.underlying3
  obtain ⟨ao, no, co, rfl, hnc, hcm, hop⟩ := h1.ops11
  obtain ⟨bo, nb, cb, rfl, hnb, hcb, hopb⟩ := h2.ops11
  obtain ⟨eo, ne, ce, rfl, hne, hce, hope⟩ := h3.ops11
  have HOP := Lib.hid hop
  have HOB := Lib.hid hopb
  have HOE := Lib.hid hope
  have CN := Lib.hid (fun w => near_any z 0 20 w)
  have HY := Lib.hid (show clampI (clampI z 0 20) 0 256 = clampI z 0 20 by
    have hr : 0 ≤ clampI z 0 20 ∧ clampI z 0 20 ≤ 20 := by unfold clampI; split <;> (try split) <;> omega
    generalize clampI z 0 20 = y at *
    unfold clampI
    rw [if_neg (by omega), if_neg (by omega)])
  have HR := Lib.hid (show (clampI z 0 20).toNat ≤ 20 by unfold clampI; split <;> (try split) <;> omega)
  have CB := Lib.hid (fun w => begin_any (clampI z 0 20) w)
  have CD := Lib.hid (fun w => new_any2 (clampI z 0 20) w)
  rw [HY.out] at CB CD
  generalize clampI z 0 20 = y at *
  generalize y.toNat = n at *
  clear HY hop hopb hope h0 h1 h2 h3
  go_enter Try.func4, Try.ntmps4
  go_wp2_with fail
  refine (alive11 _).mono ?_
  rintro e w1 ⟨rfl, hb1⟩
  have HB1 := Lib.hid hb1
  clear hb1
  go_wp2_with fail
  refine (CN.out _).mono ?_
  rintro e w1' ⟨rfl, rfl⟩
  go_wp2_with fail
  refine (CD.out w1).mono ?_
  rintro e w2 ⟨g, a, rfl, hg, ha, hD, hb2⟩
  have R2 := Lib.hid (And.intro hg (And.intro ha (And.intro hD hb2)))
  clear hg ha hD hb2
  go_wp2_with fail
  refine (CB.out w2).mono ?_
  rintro e w3 ⟨k, ka, rfl, hk, hka, hB, hb3⟩
  have TT := Lib.hid (two_begin2 R2.out.2.2.2 hb3 R2.out.1 R2.out.2.1 R2.out.2.2.1 hk hka hB)
  have HB3 := Lib.hid (HB1.out.trans ((R2.out.2.2.2.trans (hb3.mono R2.out.2.2.2.size)).mono HB1.out.size))
  clear hk hka hB hb3
  go_wp2_with fail
  refine (few11_any ao no co w3 hnc).mono ?_
  rintro e w3' ⟨rfl, hw3⟩
  rw [hw3]
  clear hw3
  go_wp2_with fail
  have T2 : Two w3 w.heap.size g a n n k ka (32 * n) (List.replicate (32 * n) 0) (-1) false 0 := TT.out.low HB1.out.size HB3.out.size
  refine (brun_any T2 ao (min no 50) co (Nat.min_le_right _ _) ?_).mono ?_
  · rcases HOP.out with h0 | ⟨b, off, ha, ho⟩
    · exact Or.inl (by omega)
    · exact Or.inr ⟨b, off, ha, (ho.keep HB3.out).few (Nat.min_le_left _ _)⟩
  · rintro e w4 ⟨rfl, ⟨bs4, l4, dd4, wr4, ht4⟩, hb4, ho4⟩
    have HT4 := Lib.hid ht4
    have HB4 := Lib.hid (HB3.out.trans hb4)
    clear ht4 hb4 ho4 TT R2 T2 HB3
    go_wp2_with fail
    obtain ⟨i0, hi0, hz0, hz1, hz2⟩ := info_parts byte_info
    go_upto_region 7 with fail
    refine held_begin (fun w' => Two w' w.heap.size g a n n k ka (32 * n) bs4 l4 dd4 wr4 ∧ Below w.heap.size w w') 24 [false, false, false, false, false, false, false, false, false, false, false, false, false, false, false, false, false, false, false, false, false, false, false, false] (by kernel_rfl) rfl (by rfl) ?_
    have hHeld : Two w4.drew w.heap.size g a n n k ka (32 * n) bs4 l4 dd4 wr4 ∧ Below w.heap.size w w4.drew := ⟨HT4.out.drew, HB4.out.drew⟩
    refine held_take (v := ?_) 0 33 [true, false, false, false, false, false, false, false, false, false, false, false, false, false, false, false, false, false, false, false, false, false, false, false] rfl (by rfl) (by rfl) (by kernel_rfl) (by kernel_rfl) (by kernel_rfl) (by rfl) (fun _ _ _ h => h) ?_ hHeld ?_
    rotate_left
    · intro w hSw; go_simp <;> with_reducible rfl
    simp only [Act.put, List.setIfInBounds_toArray, List.set_cons_zero, List.set_cons_succ]
    refine held_take (v := ?_) 3 36 [true, false, false, true, false, false, false, false, false, false, false, false, false, false, false, false, false, false, false, false, false, false, false, false] rfl (by rfl) (by rfl) (by kernel_rfl) (by kernel_rfl) (by kernel_rfl) (by rfl) (fun _ _ _ h => h) ?_ hHeld ?_
    rotate_left
    · intro w hSw; go_simp <;> with_reducible rfl
    simp only [Act.put, List.setIfInBounds_toArray, List.set_cons_zero, List.set_cons_succ]
    refine held_take (v := ?_) 4 37 [true, false, false, true, true, false, false, false, false, false, false, false, false, false, false, false, false, false, false, false, false, false, false, false] rfl (by rfl) (by rfl) (by kernel_rfl) (by kernel_rfl) (by kernel_rfl) (by rfl) (fun _ _ _ h => h) ?_ hHeld ?_
    rotate_left
    · intro w hSw; go_simp <;> with_reducible rfl
    simp only [Act.put, List.setIfInBounds_toArray, List.set_cons_zero, List.set_cons_succ]
    refine held_take (v := ?_) 5 38 [true, false, false, true, true, true, false, false, false, false, false, false, false, false, false, false, false, false, false, false, false, false, false, false] rfl (by rfl) (by rfl) (by kernel_rfl) (by kernel_rfl) (by kernel_rfl) (by rfl) (fun _ _ _ h => h) ?_ hHeld ?_
    rotate_left
    · intro w hSw; go_simp <;> with_reducible rfl
    simp only [Act.put, List.setIfInBounds_toArray, List.set_cons_zero, List.set_cons_succ]
    refine held_take (v := .slice ka (32 * n) (32 * n)) 6 39 [true, false, false, true, true, true, true, false, false, false, false, false, false, false, false, false, false, false, false, false, false, false, false, false] rfl (by rfl) (by rfl) (by kernel_rfl) (by kernel_rfl) (by kernel_rfl) (by rfl) (fun _ _ _ h => h) (fun w' h => run_op_oneD rfl rfl Try.underlying33 rfl h.1.b.cells.1) hHeld ?_
    simp only [Act.put, List.setIfInBounds_toArray, List.set_cons_zero, List.set_cons_succ]
    refine held_take (v := ?_) 8 41 [true, false, false, true, true, true, true, false, true, false, false, false, false, false, false, false, false, false, false, false, false, false, false, false] rfl (by rfl) (by rfl) (by kernel_rfl) (by kernel_rfl) (by kernel_rfl) (by rfl) (fun _ _ _ h => h) ?_ hHeld ?_
    rotate_left
    · intro w hSw; go_simp <;> with_reducible rfl
    simp only [Act.put, List.setIfInBounds_toArray, List.set_cons_zero, List.set_cons_succ]
    refine held_take (v := ?_) 9 42 [true, false, false, true, true, true, true, false, true, true, false, false, false, false, false, false, false, false, false, false, false, false, false, false] rfl (by rfl) (by rfl) (by kernel_rfl) (by kernel_rfl) (by kernel_rfl) (by rfl) (fun _ _ _ h => h) ?_ hHeld ?_
    rotate_left
    · intro w hSw; go_simp <;> with_reducible rfl
    simp only [Act.put, List.setIfInBounds_toArray, List.set_cons_zero, List.set_cons_succ]
    refine held_take (v := ?_) 10 43 [true, false, false, true, true, true, true, false, true, true, true, false, false, false, false, false, false, false, false, false, false, false, false, false] rfl (by rfl) (by rfl) (by kernel_rfl) (by kernel_rfl) (by kernel_rfl) (by rfl) (fun _ _ _ h => h) ?_ hHeld ?_
    rotate_left
    · intro w hSw; go_simp <;> with_reducible rfl
    simp only [Act.put, List.setIfInBounds_toArray, List.set_cons_zero, List.set_cons_succ]
    refine held_take (v := .int .i64 l4) 11 44 [true, false, false, true, true, true, true, false, true, true, true, true, false, false, false, false, false, false, false, false, false, false, false, false] rfl (by rfl) (by rfl) (by kernel_rfl) (by kernel_rfl) (by kernel_rfl) (by rfl) (fun _ _ _ h => h) (fun w' h => run_op_oneD rfl rfl Try.underlying3 rfl h.1.b.cells.2.1) hHeld ?_
    simp only [Act.put, List.setIfInBounds_toArray, List.set_cons_zero, List.set_cons_succ]
    refine held_take (v := ?_) 12 45 [true, false, false, true, true, true, true, false, true, true, true, true, true, false, false, false, false, false, false, false, false, false, false, false] rfl (by rfl) (by rfl) (by kernel_rfl) (by kernel_rfl) (by kernel_rfl) (by rfl) (fun _ _ _ h => h) ?_ hHeld ?_
    rotate_left
    · intro w hSw; go_simp <;> with_reducible rfl
    simp only [Act.put, List.setIfInBounds_toArray, List.set_cons_zero, List.set_cons_succ]
    refine held_take (v := ?_) 13 46 [true, false, false, true, true, true, true, false, true, true, true, true, true, true, false, false, false, false, false, false, false, false, false, false] rfl (by rfl) (by rfl) (by kernel_rfl) (by kernel_rfl) (by kernel_rfl) (by rfl) (fun _ _ _ h => h) ?_ hHeld ?_
    rotate_left
    · intro w hSw; go_simp <;> with_reducible rfl
    simp only [Act.put, List.setIfInBounds_toArray, List.set_cons_zero, List.set_cons_succ]
    refine held_take (v := ?_) 14 47 [true, false, false, true, true, true, true, false, true, true, true, true, true, true, true, false, false, false, false, false, false, false, false, false] rfl (by rfl) (by rfl) (by kernel_rfl) (by kernel_rfl) (by kernel_rfl) (by rfl) (fun _ _ _ h => h) ?_ hHeld ?_
    rotate_left
    · intro w hSw; go_simp <;> with_reducible rfl
    simp only [Act.put, List.setIfInBounds_toArray, List.set_cons_zero, List.set_cons_succ]
    refine held_take (v := .bool dd4) 15 48 [true, false, false, true, true, true, true, false, true, true, true, true, true, true, true, true, false, false, false, false, false, false, false, false] rfl (by rfl) (by rfl) (by kernel_rfl) (by kernel_rfl) (by kernel_rfl) (by rfl) (fun _ _ _ h => h) (fun w' h => run_op_oneD rfl rfl Try.underlying4 rfl h.1.b.cells.2.2.1) hHeld ?_
    simp only [Act.put, List.setIfInBounds_toArray, List.set_cons_zero, List.set_cons_succ]
    refine held_take (v := ?_) 16 49 [true, false, false, true, true, true, true, false, true, true, true, true, true, true, true, true, true, false, false, false, false, false, false, false] rfl (by rfl) (by rfl) (by kernel_rfl) (by kernel_rfl) (by kernel_rfl) (by rfl) (fun _ _ _ h => h) ?_ hHeld ?_
    rotate_left
    · intro w hSw; go_simp <;> with_reducible rfl
    simp only [Act.put, List.setIfInBounds_toArray, List.set_cons_zero, List.set_cons_succ]
    refine held_take (v := ?_) 17 50 [true, false, false, true, true, true, true, false, true, true, true, true, true, true, true, true, true, true, false, false, false, false, false, false] rfl (by rfl) (by rfl) (by kernel_rfl) (by kernel_rfl) (by kernel_rfl) (by rfl) (fun _ _ _ h => h) ?_ hHeld ?_
    rotate_left
    · intro w hSw; go_simp <;> with_reducible rfl
    simp only [Act.put, List.setIfInBounds_toArray, List.set_cons_zero, List.set_cons_succ]
    refine held_take (v := ?_) 18 51 [true, false, false, true, true, true, true, false, true, true, true, true, true, true, true, true, true, true, true, false, false, false, false, false] rfl (by rfl) (by rfl) (by kernel_rfl) (by kernel_rfl) (by kernel_rfl) (by rfl) (fun _ _ _ h => h) ?_ hHeld ?_
    rotate_left
    · intro w hSw; go_simp <;> with_reducible rfl
    simp only [Act.put, List.setIfInBounds_toArray, List.set_cons_zero, List.set_cons_succ]
    refine held_take (v := .int .i64 wr4) 19 52 [true, false, false, true, true, true, true, false, true, true, true, true, true, true, true, true, true, true, true, true, false, false, false, false] rfl (by rfl) (by rfl) (by kernel_rfl) (by kernel_rfl) (by kernel_rfl) (by rfl) (fun _ _ _ h => h) (fun w' h => run_op_oneD rfl rfl Try.underlying3 rfl h.1.b.cells.2.2.2) hHeld ?_
    simp only [Act.put, List.setIfInBounds_toArray, List.set_cons_zero, List.set_cons_succ]
    refine held_two 1 2 (by kernel_rfl) ?_ ?_
    · refine op_call 34 [true, true, false, true, true, true, true, false, true, true, true, true, true, true, true, true, true, true, true, true, false, false, false, false] rfl (by rfl) (by rfl) (by rfl) (by go_simp) ((dclone_any2 hHeld.1.d).mono ?_)
      rintro e w5 ⟨g', a', c', rfl, hg', ha', hd5, hb5⟩
      refine ⟨_, rfl, ⟨hHeld.1.keep hb5, hHeld.2.trans (hb5.mono hHeld.1.lw)⟩, fun hHeld => ?_⟩
      simp only [Act.put, List.setIfInBounds_toArray, List.set_cons_zero, List.set_cons_succ]
      have hc5 : Cl w5 w4.heap.size g' a' n c' bs4 l4 dd4 wr4 := ⟨hd5, hg', ha'⟩
      have al5 := (Below.refl w5.heap.size w5).alloc (Nat.le_refl _) (.cells #[] 5)
      have hm : Mid (w5.alloc (.cells #[] 5)) w.heap.size w4.heap.size g a n n k ka bs4 l4 dd4 wr4 g' a' c' (.slice (some ⟨w5.heap.size, 0, none⟩) 0 0) 0 [] := ⟨hHeld.1.keep al5, HT4.out.top, hc5.keep al5, World.ownsRow_made w5 #[] 0 hb5.size (by decide) rfl, Nat.le_trans hb5.size al5.size⟩
      refine held_one 2 (by kernel_rfl) ?_
      refine op_value (v := .slice (some ⟨w5.heap.size, 0, none⟩) 0 0) 35 [true, true, true, true, true, true, true, false, true, true, true, true, true, true, true, true, true, true, true, true, false, false, false, false] rfl (by rfl) (by rfl) (by rfl) (run_op_slice0 rfl Try.underlying33 hi0) (⟨hm.two, hHeld.2.trans (al5.mono hHeld.1.lw)⟩) fun hHeld => ?_
      simp only [Act.put, List.setIfInBounds_toArray, List.set_cons_zero, List.set_cons_succ]
      clear hd5 hb5 hc5 al5 hg' ha'
      generalize w5.alloc (.cells #[] 5) = w6 at *
      generalize w5.heap.size = s0 at *
      obtain ⟨v', w7, hr, hm7, hb7⟩ := hm.grow 33
      clear hm
      refine held_one 7 (by kernel_rfl) ?_
      refine op_value (v := v') 40 [true, true, true, true, true, true, true, true, true, true, true, true, true, true, true, true, true, true, true, true, false, false, false, false] rfl (by rfl) (by rfl) (by rfl) (run_op_appD rfl rfl rfl hr) (⟨hm7.two, hHeld.2.trans (hb7.mono HT4.out.lw)⟩) fun hHeld => ?_
      simp only [Act.put, List.setIfInBounds_toArray, List.set_cons_zero, List.set_cons_succ]
      clear hr hb7
      refine held_take (v := ?_) 22 11 [true, true, true, true, true, true, true, true, true, true, true, true, true, true, true, true, true, true, true, true, false, false, true, false] rfl (by rfl) (by rfl) (by kernel_rfl) (by kernel_rfl) (by kernel_rfl) (by rfl) (fun _ _ _ h => h) ?_ hHeld ?_
      rotate_left
      · intro w hSw; go_simp <;> with_reducible rfl
      simp only [Act.put, List.setIfInBounds_toArray, List.set_cons_zero, List.set_cons_succ]
      obtain ⟨ka', kc', rfl, htm, hsep⟩ := hm7.box HT4.out.lw
      refine held_take (v := .agg #[.slice ka' (32 * n) kc', .int .i64 l4, .bool dd4, .int .i64 wr4]) 20 53 [true, true, true, true, true, true, true, true, true, true, true, true, true, true, true, true, true, true, true, true, true, false, true, false] rfl (by rfl) (by rfl) (by kernel_rfl) (by kernel_rfl) (by kernel_rfl) (by rfl) (fun _ _ _ h => h) (fun w' h => by go_simp) hHeld ?_
      simp only [Act.put, List.setIfInBounds_toArray, List.set_cons_zero, List.set_cons_succ]
      refine held_one 21 (by kernel_rfl) ?_
      refine op_value (v := .pointer (some ⟨w7.heap.size, 0, none⟩)) 54 [true, true, true, true, true, true, true, true, true, true, true, true, true, true, true, true, true, true, true, true, true, true, true, false] rfl (by rfl) (by rfl) (by rfl) (run_op_boxD rfl rfl) (⟨hm7.two.keep ((Below.refl _ _).alloc (Nat.le_refl _) _), hHeld.2.trans (((Below.refl w7.heap.size _).alloc (Nat.le_refl _) _).mono hm7.two.lw)⟩) fun hHeld => ?_
      simp only [Act.put, List.setIfInBounds_toArray, List.set_cons_zero, List.set_cons_succ]
      refine held_take (v := ?_) 23 12 [true, true, true, true, true, true, true, true, true, true, true, true, true, true, true, true, true, true, true, true, true, true, true, true] rfl (by rfl) (by rfl) (by kernel_rfl) (by kernel_rfl) (by kernel_rfl) (by rfl) (fun _ _ _ h => h) ?_ hHeld ?_
      rotate_left
      · intro w hSw; go_simp <;> with_reducible rfl
      simp only [Act.put, List.setIfInBounds_toArray, List.set_cons_zero, List.set_cons_succ]
      refine held_done (by kernel_rfl) ?_
      have HM := Lib.hid htm
      have HX := Lib.hid hHeld
      have HSEP := Lib.hid hsep
      have HLOW := Lib.hid hm7.low
      clear htm hHeld hsep hm7
      generalize w7.alloc _ = w8 at *
      generalize w7.heap.size = k' at *
      clear CN CB CD
      have HTOP : Hid (∀ j, (dkp g a j ∨ bkp k ka j) ∨ (dkp g' a' j ∨ bkp k' ka' j) → j < w8.heap.size) := Lib.hid (by rintro j (h | h); (· exact HX.out.1.top j h); (· exact HM.out.top j h))
      have HDIS : Hid (∀ j, (dkp g' a' j ∨ bkp k' ka' j) → ¬ (dkp g a j ∨ bkp k ka j)) := Lib.hid (fun j h1 h2 => by have := HSEP.out j h1; have := HLOW.out j h2; omega)
      clear HSEP HLOW
      have ALL := all_any HX.out.1.d
      obtain ⟨m, hmn⟩ : ∃ m, m = 32 * n := ⟨_, rfl⟩
      rw [← hmn] at ALL
      have HMN : Hid (m ≤ 640) := Lib.hid (by have := HR.out; omega)
      clear hmn
      go_wp2_with fail
      refine ALL.mono ?_
      rintro e w9 ⟨va, rfl, hro9, hb9⟩
      obtain ⟨aa, ac, rfl, hnc9, hcm9, hxl9, hsec9⟩ := own_blk hro9
      have HB9 := Lib.hid hb9
      have HE9 : Hid (m = 0 ∨ ∃ s9 cs, aa = some ⟨s9, 0, none⟩ ∧ w8.heap.size ≤ s9 ∧ Blk w9 s9 cs 5 ∧ ∀ j, j < m → ∃ z : Int, cs[j]? = some (.int .u8 z)) := Lib.hid (by
        rcases hsec9 with ⟨h0, _⟩ | ⟨s9, sp, h0, h1, h2⟩
        · exact Or.inl h0
        · refine Or.inr ⟨s9, _, h0, h1, h2, fun j hj => ?_⟩
          have hj' : j < (bcells bs4).length := by omega
          have hl : j < bs4.length := by rw [bcells_len] at hj'; exact hj'
          rw [List.getElem?_append_left hj']
          exact ⟨((bs4.getD j 0).toNat : Int), by simp [bcells, List.getD_eq_getElem?_getD, List.getElem?_eq_getElem hl]⟩)
      clear ALL hro9 hb9 hnc9 hcm9 hxl9 hsec9
      go_wp2_with fail
      go_loopg [14] m (fun qq s14 wr => ∃ i : Nat, qq + i = m ∧ s14 = .int .i64 i ∧ Hid (Below w8.heap.size w8 wr) ∧ Hid (m = 0 ∨ ∃ s9 cs, aa = some ⟨s9, 0, none⟩ ∧ w8.heap.size ≤ s9 ∧ Blk wr s9 cs 5 ∧ ∀ j, j < m → ∃ z : Int, cs[j]? = some (.int .u8 z)))
      case atStart => exact ⟨0, by omega, rfl, HB9, HE9⟩
      case round =>
        obtain ⟨i, hqi, rfl, BR, HE⟩ := hrel
        clear HB9 HE9
        by_cases hi : i < m
        · rcases HE.out with h0 | ⟨s9, cs, rfl, hs9, hblk, hcs⟩
          · omega
          obtain ⟨zz, hz⟩ := hcs i hi
          have cx : wr.cell? ⟨s9, i, none⟩ = some (.int .u8 zz) := by rw [hblk.cell, hz]
          have fx := hblk.froz i
          have HN := Lib.hid (hblk.set i (.int .u8 (IntKind.u8.wrap (zz + 1))))
          have HS := Lib.hid (And.intro hs9 hcs)
          have HB' := Lib.hid (below_set BR.out hs9 i (.int .u8 (IntKind.u8.wrap (zz + 1))))
          have i0 : (0 : Int) ≤ i := by omega
          have i1 : (i : Int) < m := by omega
          have i2 : (i : Int) < 1000 := by have := HMN.out; omega
          have HQ := Lib.hid (And.intro hqi hi)
          clear hqi hi hs9 hblk hcs hz HE BR
          go_wp2_with fail
          go_roundg (gk - 1)
          case measure => have := HQ.out; omega
          case rel =>
            refine ⟨i + 1, by have := HQ.out; omega, by go_num, HB', Lib.hid (Or.inr ⟨s9, _, rfl, HS.out.1, HN.out, fun j hj => ?_⟩)⟩
            by_cases hji : i = j
            · subst hji
              obtain ⟨q, hq⟩ := HS.out.2 i hj
              have : i < cs.length := by
                rcases Nat.lt_or_ge i cs.length with hh | hh
                · exact hh
                · rw [List.getElem?_eq_none hh] at hq; cases hq
              exact ⟨_, List.getElem?_set_self this⟩
            · rw [List.getElem?_set_ne hji]
              exact HS.out.2 j hj
        · have him : (m : Int) ≤ i := by omega
          clear HE hqi hi
          have HTW := Lib.hid (HX.out.1.keep BR.out)
          have HTM := Lib.hid (HM.out.keep BR.out)
          have HBW := Lib.hid (HX.out.2.trans (BR.out.mono HX.out.1.lw))
          have HGO := Lib.hid BR.out.size
          clear HX HM BR
          obtain ⟨go, hgo⟩ : ∃ go, wr.heap.size = go := ⟨_, rfl⟩
          have HO := Lib.hid (show Blk (wr.alloc (.cells #[.bool false, .slice none 0 0, .int .i64 0, .bool false, .int .i64 0] 39)) go [.bool false, .slice none 0 0, .int .i64 0, .bool false, .int .i64 0] 39 from hgo ▸ Blk.new wr #[.bool false, .slice none 0 0, .int .i64 0, .bool false, .int .i64 0] 39)
          have hal := (Below.refl wr.heap.size wr).alloc (Nat.le_refl _) (.cells #[.bool false, .slice none 0 0, .int .i64 0, .bool false, .int .i64 0] 39)
          have HTW1 := Lib.hid (HTW.out.keep hal)
          have HTM1 := Lib.hid (HTM.out.keep hal)
          have HBW1 := Lib.hid (HBW.out.trans (hal.mono HTW.out.lw))
          clear hal HTW HTM HBW
          subst hgo
          go_wp2_with fail
          generalize wr.alloc _ = w10 at *
          generalize wr.heap.size = go at *
          refine (arm_odd none _ (Lib.hid (unmade_nil _)) 1).mono ?_
          rintro e w11 ⟨rfl, rfl⟩
          go_wp2_with fail
          refine (revive_odd _ _ (Lib.hid (unmade_odd go _ (HO.out.cell 0)))).mono ?_
          rintro e w20 ⟨rfl, rfl⟩
          go_wp2_with fail
          refine (read_odd none _ (Lib.hid (unmade_nil _)) 0).mono ?_
          rintro e w20 ⟨rfl, rfl⟩
          go_wp2_with fail
          have HMK := Lib.hid (show ∀ w, (Instr.makeSlice 33 (.int .i64 32) (.int .i64 32)).run Try.prog w = .ok (.slice (some ⟨w.heap.size, 0, none⟩) 32 32) (w.alloc (.cells (bcells (ones 0)).toArray 5)) from fun w => by
            have h := byte_info
            cases hq : Try.prog.info? 5 with
            | none => rw [hq] at h; cases h
            | some i =>
              rw [hq] at h
              simp only [Option.map_some, Option.some.injEq, Prod.mk.injEq] at h
              obtain ⟨h1, h2, h3⟩ := h
              have := run_makeSlice (P := Try.prog) w 33 5 i _ Try.underlying33 hq h1 .i64 .i64 32 32 (by omega) (Int.le_refl _) (by rw [h2]; decide) (by rw [h3]; decide) (by omega)
              rw [h2, show (Value.int .u8 0).cells = #[.int .u8 0] from rfl, madeU8] at this
              exact this)
          refine (few11_any bo nb cb _ hnb).mono ?_
          rintro e w12 ⟨rfl, hw12⟩
          rw [hw12]
          clear hw12
          go_wp2_with fail
          refine (brun_any HTW1.out bo (min nb 50) cb (Nat.min_le_right _ _) ?_).mono ?_
          · rcases HOB.out with h0 | ⟨b, off, ha, ho⟩
            · exact Or.inl (by omega)
            · exact Or.inr ⟨b, off, ha, (ho.keep HBW1.out).few (Nat.min_le_left _ _)⟩
          rintro e w13 ⟨rfl, ⟨_, _, _, _, _⟩, hb5, ho5⟩
          have HTM2 := Lib.hid (HTM1.out.only ho5 HDIS.out)
          have HO2 := Lib.hid (HO.out.only ho5 (fun h => by have := HTOP.out go (Or.inl h); have := HGO.out; omega))
          have HBW2 := Lib.hid (HBW1.out.trans hb5)
          clear hb5 ho5 HTM1 HO HBW1
          go_wp2_with fail
          refine (few11_any eo ne ce _ hne).mono ?_
          rintro e w12 ⟨rfl, hw12⟩
          rw [hw12]
          clear hw12
          go_wp2_with fail
          refine (brun_any HTM2.out eo (min ne 50) ce (Nat.min_le_right _ _) ?_).mono ?_
          · rcases HOE.out with h0 | ⟨b, off, ha, ho⟩
            · exact Or.inl (by omega)
            · exact Or.inr ⟨b, off, ha, (ho.keep HBW2.out).few (Nat.min_le_left _ _)⟩
          rintro e w14 ⟨rfl, ⟨_, _, _, _, _⟩, hb5, ho5⟩
          have HO := Lib.hid (HO2.out.only ho5 (fun h => by have := HTOP.out go (Or.inr h); have := HGO.out; omega))
          have HEND := Lib.hid (HBW2.out.trans hb5)
          clear hb5 ho5 HO2 HBW2 HTM2
          have MK1 := HMK.out w14
          go_wp2_with fail
          refine (write_odd none _ (Lib.hid (unmade_nil _)) 0 _ 32 32).mono ?_
          rintro e w20 ⟨rfl, rfl⟩
          have HAw15 := Lib.hid ((Below.refl w14.heap.size w14).alloc (Nat.le_refl _) (.cells (bcells (ones 0)).toArray 5))
          have HOa := Lib.hid (HO.out.only (p := fun _ => False) (Only.ofBelow' HAw15.out) id)
          have HEa := Lib.hid (HEND.out.trans (HAw15.out.mono HEND.out.size))
          clear HO HEND HAw15
          generalize w14.alloc _ = w15 at *
          clear MK1
          have MK1 := HMK.out w15
          go_wp2_with fail
          have HAw16 := Lib.hid ((Below.refl w15.heap.size w15).alloc (Nat.le_refl _) (.cells (bcells (ones 0)).toArray 5))
          have HOb := Lib.hid (HOa.out.only (p := fun _ => False) (Only.ofBelow' HAw16.out) id)
          have HEb := Lib.hid (HEa.out.trans (HAw16.out.mono HEa.out.size))
          clear HOa HEa HAw16
          generalize w15.alloc _ = w16 at *
          refine (write_odd _ _ (Lib.hid (unmade_odd go _ (HOb.out.cell 0))) 0 _ 32 32).mono ?_
          rintro e w20 ⟨rfl, rfl⟩
          clear MK1
          go_wp2_with fail
          refine (len_odd none _ (Lib.hid (unmade_nil _))).mono ?_
          rintro e w20 ⟨rfl, rfl⟩
          go_wp2_with fail
          refine (len_odd _ _ (Lib.hid (unmade_odd go _ (HOb.out.cell 0)))).mono ?_
          rintro e w20 ⟨rfl, rfl⟩
          go_wp2_with fail
          refine (dead_odd none _ (Lib.hid (unmade_nil _))).mono ?_
          rintro e w20 ⟨rfl, rfl⟩
          go_wp2_with fail
          refine (written_odd none _ (Lib.hid (unmade_nil _))).mono ?_
          rintro e w20 ⟨rfl, rfl⟩
          go_wp2_with fail
          refine (all_odd none _ (Lib.hid (unmade_nil _))).mono ?_
          rintro e w20 ⟨rfl, rfl⟩
          go_wp2_with fail
          refine (dclone_odd none _ (Lib.hid (unmade_nil _))).mono ?_
          rintro e w20 ⟨rfl, rfl⟩
          go_wp2_with fail
          refine (dclone_odd _ _ (Lib.hid (unmade_odd go _ (HOb.out.cell 0)))).mono ?_
          rintro e w20 ⟨rfl, rfl⟩
          go_wp2_with fail
          go_ret
          exact ⟨rfl, HEb.out⟩
    · refine op_value (v := .slice (some ⟨w4.drew.heap.size, 0, none⟩) 0 0) 35 [true, false, true, true, true, true, true, false, true, true, true, true, true, true, true, true, true, true, true, true, false, false, false, false] rfl (by rfl) (by rfl) (by rfl) (run_op_slice0 rfl Try.underlying33 hi0) (⟨hHeld.1.keep ((Below.refl _ _).alloc (Nat.le_refl _) _), hHeld.2.trans (((Below.refl w4.drew.heap.size _).alloc (Nat.le_refl _) _).mono hHeld.1.lw)⟩) fun hHeld => ?_
      simp only [Act.put, List.setIfInBounds_toArray, List.set_cons_zero, List.set_cons_succ]
      have hro : (w4.drew.alloc (.cells #[] 5)).ownsRow w4.heap.size 5 1 (.slice (some ⟨w4.drew.heap.size, 0, none⟩) 0 0) 0 [] := World.ownsRow_made w4.drew #[] 0 (Nat.le_refl _) (by decide) rfl
      have hle : w4.heap.size ≤ (w4.drew.alloc (.cells #[] 5)).heap.size := ((Below.refl w4.drew.heap.size w4.drew).alloc (Nat.le_refl _) (.cells #[] 5)).size
      generalize w4.drew.alloc (.cells #[] 5) = w5' at *
      generalize w4.drew.heap.size = s0 at *
      refine held_call 1 34 [true, true, true, true, true, true, true, false, true, true, true, true, true, true, true, true, true, true, true, true, false, false, false, false] (by kernel_rfl) rfl (by rfl) (by rfl) (by rfl) (by go_simp) ((dclone_any2 hHeld.1.d).mono ?_)
      rintro e w6 ⟨g', a', c', rfl, hg', ha', hd5, hb5⟩
      refine ⟨_, rfl, ⟨hHeld.1.keep hb5, hHeld.2.trans (hb5.mono hHeld.1.lw)⟩, fun hHeld => ?_⟩
      simp only [Act.put, List.setIfInBounds_toArray, List.set_cons_zero, List.set_cons_succ]
      have hm : Mid w6 w.heap.size w4.heap.size g a n n k ka bs4 l4 dd4 wr4 g' a' c' (.slice (some ⟨s0, 0, none⟩) 0 0) 0 [] := ⟨hHeld.1, HT4.out.top, ⟨hd5, Nat.le_trans hle hg', ha'.imp id fun ⟨s, sp, h1, h2, h3⟩ => ⟨s, sp, h1, Nat.le_trans hle h2, h3⟩⟩, own_stay hro hb5, Nat.le_trans hle hb5.size⟩
      clear hd5 hb5 hg' ha' hro hle
      obtain ⟨v', w7, hr, hm7, hb7⟩ := hm.grow 33
      clear hm
      refine held_one 7 (by kernel_rfl) ?_
      refine op_value (v := v') 40 [true, true, true, true, true, true, true, true, true, true, true, true, true, true, true, true, true, true, true, true, false, false, false, false] rfl (by rfl) (by rfl) (by rfl) (run_op_appD rfl rfl rfl hr) (⟨hm7.two, hHeld.2.trans (hb7.mono HT4.out.lw)⟩) fun hHeld => ?_
      simp only [Act.put, List.setIfInBounds_toArray, List.set_cons_zero, List.set_cons_succ]
      clear hr hb7
      refine held_take (v := ?_) 22 11 [true, true, true, true, true, true, true, true, true, true, true, true, true, true, true, true, true, true, true, true, false, false, true, false] rfl (by rfl) (by rfl) (by kernel_rfl) (by kernel_rfl) (by kernel_rfl) (by rfl) (fun _ _ _ h => h) ?_ hHeld ?_
      rotate_left
      · intro w hSw; go_simp <;> with_reducible rfl
      simp only [Act.put, List.setIfInBounds_toArray, List.set_cons_zero, List.set_cons_succ]
      obtain ⟨ka', kc', rfl, htm, hsep⟩ := hm7.box HT4.out.lw
      refine held_take (v := .agg #[.slice ka' (32 * n) kc', .int .i64 l4, .bool dd4, .int .i64 wr4]) 20 53 [true, true, true, true, true, true, true, true, true, true, true, true, true, true, true, true, true, true, true, true, true, false, true, false] rfl (by rfl) (by rfl) (by kernel_rfl) (by kernel_rfl) (by kernel_rfl) (by rfl) (fun _ _ _ h => h) (fun w' h => by go_simp) hHeld ?_
      simp only [Act.put, List.setIfInBounds_toArray, List.set_cons_zero, List.set_cons_succ]
      refine held_one 21 (by kernel_rfl) ?_
      refine op_value (v := .pointer (some ⟨w7.heap.size, 0, none⟩)) 54 [true, true, true, true, true, true, true, true, true, true, true, true, true, true, true, true, true, true, true, true, true, true, true, false] rfl (by rfl) (by rfl) (by rfl) (run_op_boxD rfl rfl) (⟨hm7.two.keep ((Below.refl _ _).alloc (Nat.le_refl _) _), hHeld.2.trans (((Below.refl w7.heap.size _).alloc (Nat.le_refl _) _).mono hm7.two.lw)⟩) fun hHeld => ?_
      simp only [Act.put, List.setIfInBounds_toArray, List.set_cons_zero, List.set_cons_succ]
      refine held_take (v := ?_) 23 12 [true, true, true, true, true, true, true, true, true, true, true, true, true, true, true, true, true, true, true, true, true, true, true, true] rfl (by rfl) (by rfl) (by kernel_rfl) (by kernel_rfl) (by kernel_rfl) (by rfl) (fun _ _ _ h => h) ?_ hHeld ?_
      rotate_left
      · intro w hSw; go_simp <;> with_reducible rfl
      simp only [Act.put, List.setIfInBounds_toArray, List.set_cons_zero, List.set_cons_succ]
      refine held_done (by kernel_rfl) ?_
      have HM := Lib.hid htm
      have HX := Lib.hid hHeld
      have HSEP := Lib.hid hsep
      have HLOW := Lib.hid hm7.low
      clear htm hHeld hsep hm7
      generalize w7.alloc _ = w8 at *
      generalize w7.heap.size = k' at *
      clear CN CB CD
      have HTOP : Hid (∀ j, (dkp g a j ∨ bkp k ka j) ∨ (dkp g' a' j ∨ bkp k' ka' j) → j < w8.heap.size) := Lib.hid (by rintro j (h | h); (· exact HX.out.1.top j h); (· exact HM.out.top j h))
      have HDIS : Hid (∀ j, (dkp g' a' j ∨ bkp k' ka' j) → ¬ (dkp g a j ∨ bkp k ka j)) := Lib.hid (fun j h1 h2 => by have := HSEP.out j h1; have := HLOW.out j h2; omega)
      clear HSEP HLOW
      have ALL := all_any HX.out.1.d
      obtain ⟨m, hmn⟩ : ∃ m, m = 32 * n := ⟨_, rfl⟩
      rw [← hmn] at ALL
      have HMN : Hid (m ≤ 640) := Lib.hid (by have := HR.out; omega)
      clear hmn
      go_wp2_with fail
      refine ALL.mono ?_
      rintro e w9 ⟨va, rfl, hro9, hb9⟩
      obtain ⟨aa, ac, rfl, hnc9, hcm9, hxl9, hsec9⟩ := own_blk hro9
      have HB9 := Lib.hid hb9
      have HE9 : Hid (m = 0 ∨ ∃ s9 cs, aa = some ⟨s9, 0, none⟩ ∧ w8.heap.size ≤ s9 ∧ Blk w9 s9 cs 5 ∧ ∀ j, j < m → ∃ z : Int, cs[j]? = some (.int .u8 z)) := Lib.hid (by
        rcases hsec9 with ⟨h0, _⟩ | ⟨s9, sp, h0, h1, h2⟩
        · exact Or.inl h0
        · refine Or.inr ⟨s9, _, h0, h1, h2, fun j hj => ?_⟩
          have hj' : j < (bcells bs4).length := by omega
          have hl : j < bs4.length := by rw [bcells_len] at hj'; exact hj'
          rw [List.getElem?_append_left hj']
          exact ⟨((bs4.getD j 0).toNat : Int), by simp [bcells, List.getD_eq_getElem?_getD, List.getElem?_eq_getElem hl]⟩)
      clear ALL hro9 hb9 hnc9 hcm9 hxl9 hsec9
      go_wp2_with fail
      go_loopg [14] m (fun qq s14 wr => ∃ i : Nat, qq + i = m ∧ s14 = .int .i64 i ∧ Hid (Below w8.heap.size w8 wr) ∧ Hid (m = 0 ∨ ∃ s9 cs, aa = some ⟨s9, 0, none⟩ ∧ w8.heap.size ≤ s9 ∧ Blk wr s9 cs 5 ∧ ∀ j, j < m → ∃ z : Int, cs[j]? = some (.int .u8 z)))
      case atStart => exact ⟨0, by omega, rfl, HB9, HE9⟩
      case round =>
        obtain ⟨i, hqi, rfl, BR, HE⟩ := hrel
        clear HB9 HE9
        by_cases hi : i < m
        · rcases HE.out with h0 | ⟨s9, cs, rfl, hs9, hblk, hcs⟩
          · omega
          obtain ⟨zz, hz⟩ := hcs i hi
          have cx : wr.cell? ⟨s9, i, none⟩ = some (.int .u8 zz) := by rw [hblk.cell, hz]
          have fx := hblk.froz i
          have HN := Lib.hid (hblk.set i (.int .u8 (IntKind.u8.wrap (zz + 1))))
          have HS := Lib.hid (And.intro hs9 hcs)
          have HB' := Lib.hid (below_set BR.out hs9 i (.int .u8 (IntKind.u8.wrap (zz + 1))))
          have i0 : (0 : Int) ≤ i := by omega
          have i1 : (i : Int) < m := by omega
          have i2 : (i : Int) < 1000 := by have := HMN.out; omega
          have HQ := Lib.hid (And.intro hqi hi)
          clear hqi hi hs9 hblk hcs hz HE BR
          go_wp2_with fail
          go_roundg (gk - 1)
          case measure => have := HQ.out; omega
          case rel =>
            refine ⟨i + 1, by have := HQ.out; omega, by go_num, HB', Lib.hid (Or.inr ⟨s9, _, rfl, HS.out.1, HN.out, fun j hj => ?_⟩)⟩
            by_cases hji : i = j
            · subst hji
              obtain ⟨q, hq⟩ := HS.out.2 i hj
              have : i < cs.length := by
                rcases Nat.lt_or_ge i cs.length with hh | hh
                · exact hh
                · rw [List.getElem?_eq_none hh] at hq; cases hq
              exact ⟨_, List.getElem?_set_self this⟩
            · rw [List.getElem?_set_ne hji]
              exact HS.out.2 j hj
        · have him : (m : Int) ≤ i := by omega
          clear HE hqi hi
          have HTW := Lib.hid (HX.out.1.keep BR.out)
          have HTM := Lib.hid (HM.out.keep BR.out)
          have HBW := Lib.hid (HX.out.2.trans (BR.out.mono HX.out.1.lw))
          have HGO := Lib.hid BR.out.size
          clear HX HM BR
          obtain ⟨go, hgo⟩ : ∃ go, wr.heap.size = go := ⟨_, rfl⟩
          have HO := Lib.hid (show Blk (wr.alloc (.cells #[.bool false, .slice none 0 0, .int .i64 0, .bool false, .int .i64 0] 39)) go [.bool false, .slice none 0 0, .int .i64 0, .bool false, .int .i64 0] 39 from hgo ▸ Blk.new wr #[.bool false, .slice none 0 0, .int .i64 0, .bool false, .int .i64 0] 39)
          have hal := (Below.refl wr.heap.size wr).alloc (Nat.le_refl _) (.cells #[.bool false, .slice none 0 0, .int .i64 0, .bool false, .int .i64 0] 39)
          have HTW1 := Lib.hid (HTW.out.keep hal)
          have HTM1 := Lib.hid (HTM.out.keep hal)
          have HBW1 := Lib.hid (HBW.out.trans (hal.mono HTW.out.lw))
          clear hal HTW HTM HBW
          subst hgo
          go_wp2_with fail
          generalize wr.alloc _ = w10 at *
          generalize wr.heap.size = go at *
          refine (arm_odd none _ (Lib.hid (unmade_nil _)) 1).mono ?_
          rintro e w11 ⟨rfl, rfl⟩
          go_wp2_with fail
          refine (revive_odd _ _ (Lib.hid (unmade_odd go _ (HO.out.cell 0)))).mono ?_
          rintro e w20 ⟨rfl, rfl⟩
          go_wp2_with fail
          refine (read_odd none _ (Lib.hid (unmade_nil _)) 0).mono ?_
          rintro e w20 ⟨rfl, rfl⟩
          go_wp2_with fail
          have HMK := Lib.hid (show ∀ w, (Instr.makeSlice 33 (.int .i64 32) (.int .i64 32)).run Try.prog w = .ok (.slice (some ⟨w.heap.size, 0, none⟩) 32 32) (w.alloc (.cells (bcells (ones 0)).toArray 5)) from fun w => by
            have h := byte_info
            cases hq : Try.prog.info? 5 with
            | none => rw [hq] at h; cases h
            | some i =>
              rw [hq] at h
              simp only [Option.map_some, Option.some.injEq, Prod.mk.injEq] at h
              obtain ⟨h1, h2, h3⟩ := h
              have := run_makeSlice (P := Try.prog) w 33 5 i _ Try.underlying33 hq h1 .i64 .i64 32 32 (by omega) (Int.le_refl _) (by rw [h2]; decide) (by rw [h3]; decide) (by omega)
              rw [h2, show (Value.int .u8 0).cells = #[.int .u8 0] from rfl, madeU8] at this
              exact this)
          refine (few11_any bo nb cb _ hnb).mono ?_
          rintro e w12 ⟨rfl, hw12⟩
          rw [hw12]
          clear hw12
          go_wp2_with fail
          refine (brun_any HTW1.out bo (min nb 50) cb (Nat.min_le_right _ _) ?_).mono ?_
          · rcases HOB.out with h0 | ⟨b, off, ha, ho⟩
            · exact Or.inl (by omega)
            · exact Or.inr ⟨b, off, ha, (ho.keep HBW1.out).few (Nat.min_le_left _ _)⟩
          rintro e w13 ⟨rfl, ⟨_, _, _, _, _⟩, hb5, ho5⟩
          have HTM2 := Lib.hid (HTM1.out.only ho5 HDIS.out)
          have HO2 := Lib.hid (HO.out.only ho5 (fun h => by have := HTOP.out go (Or.inl h); have := HGO.out; omega))
          have HBW2 := Lib.hid (HBW1.out.trans hb5)
          clear hb5 ho5 HTM1 HO HBW1
          go_wp2_with fail
          refine (few11_any eo ne ce _ hne).mono ?_
          rintro e w12 ⟨rfl, hw12⟩
          rw [hw12]
          clear hw12
          go_wp2_with fail
          refine (brun_any HTM2.out eo (min ne 50) ce (Nat.min_le_right _ _) ?_).mono ?_
          · rcases HOE.out with h0 | ⟨b, off, ha, ho⟩
            · exact Or.inl (by omega)
            · exact Or.inr ⟨b, off, ha, (ho.keep HBW2.out).few (Nat.min_le_left _ _)⟩
          rintro e w14 ⟨rfl, ⟨_, _, _, _, _⟩, hb5, ho5⟩
          have HO := Lib.hid (HO2.out.only ho5 (fun h => by have := HTOP.out go (Or.inr h); have := HGO.out; omega))
          have HEND := Lib.hid (HBW2.out.trans hb5)
          clear hb5 ho5 HO2 HBW2 HTM2
          have MK1 := HMK.out w14
          go_wp2_with fail
          refine (write_odd none _ (Lib.hid (unmade_nil _)) 0 _ 32 32).mono ?_
          rintro e w20 ⟨rfl, rfl⟩
          have HAw15 := Lib.hid ((Below.refl w14.heap.size w14).alloc (Nat.le_refl _) (.cells (bcells (ones 0)).toArray 5))
          have HOa := Lib.hid (HO.out.only (p := fun _ => False) (Only.ofBelow' HAw15.out) id)
          have HEa := Lib.hid (HEND.out.trans (HAw15.out.mono HEND.out.size))
          clear HO HEND HAw15
          generalize w14.alloc _ = w15 at *
          clear MK1
          have MK1 := HMK.out w15
          go_wp2_with fail
          have HAw16 := Lib.hid ((Below.refl w15.heap.size w15).alloc (Nat.le_refl _) (.cells (bcells (ones 0)).toArray 5))
          have HOb := Lib.hid (HOa.out.only (p := fun _ => False) (Only.ofBelow' HAw16.out) id)
          have HEb := Lib.hid (HEa.out.trans (HAw16.out.mono HEa.out.size))
          clear HOa HEa HAw16
          generalize w15.alloc _ = w16 at *
          refine (write_odd _ _ (Lib.hid (unmade_odd go _ (HOb.out.cell 0))) 0 _ 32 32).mono ?_
          rintro e w20 ⟨rfl, rfl⟩
          clear MK1
          go_wp2_with fail
          refine (len_odd none _ (Lib.hid (unmade_nil _))).mono ?_
          rintro e w20 ⟨rfl, rfl⟩
          go_wp2_with fail
          refine (len_odd _ _ (Lib.hid (unmade_odd go _ (HOb.out.cell 0)))).mono ?_
          rintro e w20 ⟨rfl, rfl⟩
          go_wp2_with fail
          refine (dead_odd none _ (Lib.hid (unmade_nil _))).mono ?_
          rintro e w20 ⟨rfl, rfl⟩
          go_wp2_with fail
          refine (written_odd none _ (Lib.hid (unmade_nil _))).mono ?_
          rintro e w20 ⟨rfl, rfl⟩
          go_wp2_with fail
          refine (all_odd none _ (Lib.hid (unmade_nil _))).mono ?_
          rintro e w20 ⟨rfl, rfl⟩
          go_wp2_with fail
          refine (dclone_odd none _ (Lib.hid (unmade_nil _))).mono ?_
          rintro e w20 ⟨rfl, rfl⟩
          go_wp2_with fail
          refine (dclone_odd _ _ (Lib.hid (unmade_odd go _ (HOb.out.cell 0)))).mono ?_
          rintro e w20 ⟨rfl, rfl⟩
          go_wp2_with fail
          go_ret
          exact ⟨rfl, HEb.out⟩
end Go.Proofs.Yteebmpbplenikaa
