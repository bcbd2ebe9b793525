/- What vectors tell. -/
import Derived.Test.YtmgjbgingjiimaaVec4
import Derived.Test.YtmgjbgingjiimaaHeld
namespace Go.Proofs.Ytmgjbgingjiimaa
set_option linter.unusedVariables false
set_option linter.unusedSimpArgs false
open Go.ChangeShapes Go.WideShapes Go.ChangeAt Go.RowKit
/-- what the walk holds. -/
structure Tell (w : World) (n0 g : Nat) (v : List Int) (p q : Int) (X : List Int) (s10 : Value) (m : Nat) (Y : List Int) (wr : World) : Prop where
  va : Blk wr n0 (ints v) 53
  id : Blk wr (n0 + 1) [.int .i64 p, .int .i64 q] 55
  wa : Blk wr g (ints X) 53
  ow : wr.ownsRow (g + 1) 58 9 s10 m (ints Y)
  sz : g + 1 ≤ wr.heap.size
  be : Below n0 w wr
theorem Tell.keep {w : World} {n0 g : Nat} {v : List Int} {p q : Int} {X : List Int} {s10 : Value} {m : Nat} {Y : List Int} {wr wr2 : World} (h : Tell w n0 g v p q X s10 m Y wr) (hg : n0 + 2 ≤ g) (hb : Below wr.heap.size wr wr2) : Tell w n0 g v p q X s10 m Y wr2 :=
  ⟨h.va.keep hb h.va.lt, h.id.keep hb h.id.lt, h.wa.keep hb h.wa.lt, own_kept h.ow hb, Nat.le_trans h.sz hb.size, h.be.trans (hb.mono (by have := h.sz; omega))⟩
theorem Tell.set {w : World} {n0 g : Nat} {v : List Int} {p q : Int} {X : List Int} {s10 : Value} {m : Nat} {Y : List Int} {wr : World} (h : Tell w n0 g v p q X s10 m Y wr) (hg : n0 + 2 ≤ g) (k : Nat) (s : Int) : Tell w n0 g v p q (X.set k s) s10 m Y (wr.setCell ⟨g, k, none⟩ (.int .i64 s)) :=
  ⟨h.va.set_other (by omega) _ _, h.id.set_other (by omega) _ _, by have := h.wa.set k (.int .i64 s); rwa [ints_set] at this, own_set h.ow (Nat.lt_succ_self g) k _, by rw [size_set]; exact h.sz, below_set h.be (by omega) _ _⟩
theorem take_get {L : List Int} {m k : Nat} : fits (L.getD k 0) = true → fits ((L.take m).getD k 0) = true := fun h => by
  rw [List.getD_eq_getElem?_getD] at h ⊢
  rw [List.getElem?_take]
  split
  · exact h
  · rfl
theorem Sl.few {w : World} {a : Option Addr} {n m : Nat} {L : List Int} (h : Sl w a n 9 (ints L)) (hm : m ≤ n) : Sl w a m 9 (ints (L.take (m * 9))) := by
  have hl : L.length = n * 9 := by have := h.1; rwa [ints_len] at this
  refine ⟨by rw [ints_len, List.length_take, hl]; omega, ?_⟩
  rcases h.2 with h0 | ⟨b, off, ha, hb, hc⟩
  · exact Or.inl (by omega)
  · refine Or.inr ⟨b, off, ha, hb, fun j hj => ?_⟩
    rw [hc j (by omega), List.getD_eq_getElem?_getD, List.getD_eq_getElem?_getD, ints_get _ _ (by omega), ints_get _ _ (by rw [List.length_take]; omega), List.getD_eq_getElem?_getD, List.getD_eq_getElem?_getD, List.getElem?_take_of_lt (by omega)]
theorem known8_is {v : List Int} {r s : Int} {b : Bool} (hv : Hid (v.length = 4)) (h : known v r s = b) (w : World) : Calls Try.prog 32 #[.agg (ints v).toArray, .agg #[.int .i64 r, .int .i64 s]] w fun e w' => e = .returned (.bool b) ∧ Below w.heap.size w w' := by
  have := has8_any v r s w hv
  rwa [h] at this
theorem set_same (X : List Int) (k : Nat) (hk : k < X.length) : X.set k (X.getD k 0) = X := by
  rw [List.getD_eq_getElem?_getD, List.getElem?_eq_getElem hk]
  simp
theorem ofTo_fits {L : List Int} (hf : ∀ k, fits (L.getD k 0) = true) : ∀ n k, fits ((ofTo L n).getD k 0) = true
  | 0, k => by rcases k with _ | _ | _ | _ | k <;> rfl
  | n + 1, k => by
    unfold ofTo
    split
    · rename_i hr
      obtain ⟨h0, h4⟩ := isRep_true hr
      by_cases e : k = (L.getD (n * 9) 0).toNat
      · subst e
        rw [List.getD_eq_getElem?_getD, List.getElem?_set_self (by rw [ofTo_len]; omega)]
        show fits (max _ _) = true
        rcases Int.le_total ((ofTo L n).getD (L.getD (n * 9) 0).toNat 0) (L.getD (n * 9 + 1) 0) with h | h
        · rw [Int.max_eq_right h]; exact hf _
        · rw [Int.max_eq_left h]; exact ofTo_fits hf n _
      · rw [List.getD_eq_getElem?_getD, List.getElem?_set_ne (fun q => e q.symm), ← List.getD_eq_getElem?_getD]; exact ofTo_fits hf n k
    · exact ofTo_fits hf n k
theorem id_size : (Try.prog.info? 55).map (·.size) = some 2 := by kernel_rfl
theorem Blk.two {w : World} {g t : Nat} {x y : Value} (h : Blk w g [x, y] t) : w.rangeAt g 0 [x, y] := h.range 0 [x, y] rfl
theorem Tell.idr {w : World} {n0 g : Nat} {v : List Int} {p q : Int} {X : List Int} {s10 : Value} {m : Nat} {Y : List Int} {wr : World} (h : Tell w n0 g v p q X s10 m Y wr) : wr.rangeAt (n0 + 1) 0 [.int .i64 p, .int .i64 q] := h.id.two
theorem nextR_fits (v : List Int) (r : Int) (hf : ∀ k, fits (v.getD k 0) = true) : fits (nextR v r) = true := by
  unfold nextR
  split
  · rename_i h; have := isRep_true h.1; rw [fits_iff]; omega
  · rfl
theorem nextS_fits (v : List Int) (r : Int) (hf : ∀ k, fits (v.getD k 0) = true) : fits (nextS v r) = true := by
  unfold nextS
  split
  · rename_i h; have := (fits_iff _).1 (hf r.toNat); rw [fits_iff]; omega
  · rfl
theorem fits_app {A B : List Int} (hA : ∀ k, fits (A.getD k 0) = true) (hB : ∀ k, fits (B.getD k 0) = true) (k : Nat) : fits ((A ++ B).getD k 0) = true := by
  rw [List.getD_eq_getElem?_getD, List.getElem?_append]
  split
  · rw [← List.getD_eq_getElem?_getD]; exact hA k
  · rw [← List.getD_eq_getElem?_getD]; exact hB _
theorem lackTo_fits {v L : List Int} (hf : ∀ k, fits (L.getD k 0) = true) : ∀ n k, fits ((lackTo v L n).getD k 0) = true
  | 0, k => rfl
  | n + 1, k => by
    unfold lackTo
    split
    · exact lackTo_fits hf n k
    · exact fits_app (lackTo_fits hf n) (fun k => chAt_fits hf k) k
theorem known_out {v : List Int} {r s : Int} (h : isRep r = false) : known v r s = false := by unfold known; rw [h]; rfl
set_option maxRecDepth 100000 in
set_option maxHeartbeats 40000000 in
theorem tells_walk (L v : List Int) (a : Option Addr) (m n c : Nat) (p q r : Int) (w : World) (hv : Hid (v.length = 4)) (hs : Sl w a m 9 (ints L)) (hm : m = min n 40) (hnc : n ≤ c) (hf : ∀ k, fits (L.getD k 0) = true) (fv : ∀ k, fits (v.getD k 0) = true) :
    Calls Try.prog 9 #[.slice a n c, .agg (ints v).toArray, .agg #[.int .i64 p, .int .i64 q], .int .i64 r] w fun e w' => e = .returned (.bool true) ∧ Below w.heap.size w w' := by
  obtain ⟨i0, hi, hz0, hz1, hz2⟩ := info_parts chg_info
  have A1 := (Blk.new w (ints v).toArray 53).alloc (.cells #[.int .i64 p, .int .i64 q] 55)
  rw [List.toList_toArray] at A1
  have B1 := Blk.new (w.alloc (.cells (ints v).toArray 53)) #[.int .i64 p, .int .i64 q] 55
  rw [show (w.alloc (.cells (ints v).toArray 53)).heap.size = w.heap.size + 1 by simp] at B1
  have hb1 := ((Below.refl w.heap.size w).alloc (Nat.le_refl _) (.cells (ints v).toArray 53)).alloc (by simp) (.cells #[.int .i64 p, .int .i64 q] 55)
  have hz1' : ((w.alloc (.cells (ints v).toArray 53)).alloc (.cells #[.int .i64 p, .int .i64 q] 55)).heap.size = w.heap.size + 2 := by simp
  have hl : Hid (L.length = m * 9) := Lib.hid (by have := hs.1; rwa [ints_len] at this)
  have HS := Lib.hid hs
  have HF := Lib.hid hf
  have HFV := Lib.hid fv
  clear hs hf fv
  go_enter Try.func9, Try.ntmps9
  go_upto_region 1 with fail
  generalize (w.alloc (.cells (ints v).toArray 53)).alloc (.cells #[.int .i64 p, .int .i64 q] 55) = W at *
  go_wp2_with fail
  refine (alive08 _).mono ?_
  rintro e w2 ⟨rfl, hb2⟩
  have A2 := A1.keep hb2 A1.lt
  have B2 := B1.keep hb2 B1.lt
  have hgz : w.heap.size + 2 ≤ w2.heap.size := by have := hb2.size; omega
  have hb4 := hb1.trans (hb2.mono (by omega))
  clear A1 B1 hb1 hb2 hz1'
  have C2 := Blk.new w2 #[.int .i64 0, .int .i64 0, .int .i64 0, .int .i64 0] 53
  have T0 := Lib.hid (Tell.mk (w := w) (v := v) (p := p) (q := q) (X := ofTo L 0) (Y := lackTo v L 0) (A2.alloc (.cells #[.int .i64 0, .int .i64 0, .int .i64 0, .int .i64 0] 53)) (B2.alloc _) C2 (World.ownsRow_nil _ _ _ _) (by simp) (hb4.alloc (by omega) _))
  clear A2 B2 hb4 C2
  go_wp2_with ((go_at_call 31; refine (few_any a n c _ hnc).mono ?_; rintro e w2 ⟨rfl, rfl⟩))
  generalize w2.alloc (.cells #[.int .i64 0, .int .i64 0, .int .i64 0, .int .i64 0] 53) = w4 at *
  generalize hgg : w2.heap.size = g at *
  clear hgg w2
  have hmc : m ≤ c := by omega
  have hm40 : m ≤ 40 := by omega
  rw [← hm]
  clear hm
  have hg := hgz
  go_loopg [10, 11] m (fun qq s10 s11 wr => ∃ i : Nat, qq + i = m ∧ s11 = .int .i64 i ∧ Hid (Tell w w.heap.size g v p q (ofTo L i) s10 (lackN v L i) (lackTo v L i) wr))
  case atStart => exact ⟨0, rfl, rfl, T0⟩
  case round =>
    obtain ⟨i, hqi, rfl, T⟩ := hrel
    by_cases him : i < m
    · obtain ⟨b, off, rfl, hb, hr0⟩ := chAt_at HS.out him
      have hr := Lib.hid hr0
      have h9 : Hid ((chAt L i).length = 9) := Lib.hid (chAt_len hl.out him)
      have h9c : Hid ((ints (chAt L i)).length = 9) := Lib.hid (by rw [ints_len]; exact h9.out)
      have hi0 : (0 : Int) ≤ i := by omega
      have him' : (i : Int) < m := by omega
      have hrc := range_keep hr0 T.out.be hb
      have c0 : wr.cell? ⟨b, off + i * 9, none⟩ = some (.int .i64 (L.getD (i * 9) 0)) := (hrc 0 _ ((ints_get _ 0 (by rw [h9.out]; decide)).trans (by rw [chAt_get (by decide)]; rfl)))
      have c1 : wr.cell? ⟨b, off + i * 9 + 1, none⟩ = some (.int .i64 (L.getD (i * 9 + 1) 0)) := (hrc 1 _ ((ints_get _ 1 (by rw [h9.out]; decide)).trans (by rw [chAt_get (by decide)])))
      obtain ⟨r1, hrr⟩ : ∃ r, L.getD (i * 9) 0 = r := ⟨_, rfl⟩
      obtain ⟨s1, hss⟩ : ∃ s, L.getD (i * 9 + 1) 0 = s := ⟨_, rfl⟩
      rw [hrr] at c0
      rw [hss] at c1
      have HRR := Lib.hid hrr
      have HSS := Lib.hid hss
      clear hrr hss hrc hr0
      by_cases h0 : 0 ≤ r1
      · by_cases h4 : r1 < 4
        · obtain ⟨k, rfl⟩ : ∃ k : Nat, r1 = k := ⟨r1.toNat, by omega⟩
          have hk : k < 4 := by omega
          have h4x : Hid ((ofTo L i).length = 4) := Lib.hid (ofTo_len L i)
          have c2 := T.out.wa.vcell h4x hk
          obtain ⟨x, hx⟩ : ∃ x, (ofTo L i).getD k 0 = x := ⟨_, rfl⟩
          rw [hx] at c2
          have HX := Lib.hid hx
          clear hx
          have EY := Lib.hid (show ofTo L (i + 1) = (ofTo L i).set k (max x s1) by rw [ofTo_yes (by rw [HRR.out]; exact isRep_yes k hk), HRR.out, HSS.out, Int.toNat_natCast, HX.out])
          by_cases hl : x < s1
          · have EW := Lib.hid (show ofTo L (i + 1) = (ofTo L i).set k s1 by rw [EY.out, show max x s1 = s1 by omega])
            go_upto_region 10 with fail
            go_quiet (fail)
            have T1 := (T.out.keep hg (Go.Joins.below_draws wr.heap.size wr nq))
            have fz := T1.wa.froz k
            have c3 := T1.wa.vcell h4x hk
            have T2s := Lib.hid (T1.set hg k s1)
            clear c0 c1 c2
            have hrc := range_keep hr.out T1.be hb
            have c1 : (wr.drewN nq).cell? ⟨b, off + i * 9 + 1, none⟩ = some (.int .i64 s1) := by rw [← HSS.out]; exact (hrc 1 _ ((ints_get _ 1 (by rw [h9.out]; decide)).trans (by rw [chAt_get (by decide)])))
            clear T1 T hrc
            go_upto_region 12 with fail
            generalize (wr.drewN nq).setCell ⟨g, k, none⟩ (.int .i64 s1) = wc at *
            have T2 := T2s
            clear T2s c1 c3 fz
            clear EY
            rcases hkn : known v k s1 with _ | _
            · have C := Lib.hid (fun w => known8_is hv hkn w)
              have E := Lib.hid (lackTo_no (v := v) (L := L) (k := i) (by rw [HRR.out, HSS.out]; exact hkn))
              clear hkn
              refine wp_region_still_tail 6 (by kernel_rfl) (by kernel_rfl) ?_
              simp only [List.take_succ_cons, List.take_zero, List.drop_succ_cons, List.drop_zero]
              change wpStill _ _ (World.drew wc) (fun a' => wpList _ _ _ _ a' (World.drew wc)) _ _
              have T2d := Lib.hid (T2.out.keep hg (Below.refl wc.heap.size wc).drew)
              clear T2
              generalize wc.drew = wd at *
              have T2 := T2d
              clear T2d
              have tv := T2.out.va.vec hv
              have hrc := range_keep hr.out T2.out.be hb
              have c0 : wd.cell? ⟨b, off + i * 9, none⟩ = some (.int .i64 k) := by rw [← HRR.out]; exact (hrc 0 _ ((ints_get _ 0 (by rw [h9.out]; decide)).trans (by rw [chAt_get (by decide)]; rfl)))
              have c1 : wd.cell? ⟨b, off + i * 9 + 1, none⟩ = some (.int .i64 s1) := by rw [← HSS.out]; exact (hrc 1 _ ((ints_get _ 1 (by rw [h9.out]; decide)).trans (by rw [chAt_get (by decide)])))
              clear hrc
              repeat (first
                | ((with_reducible apply vec_load_st); (· rfl); (· rfl); (· (first | assumption | exact Blk.vec (by assumption) (by assumption))); (· assumption); (simp only [Act.put, List.setIfInBounds_toArray, List.set_cons_zero, List.set_cons_succ]))
                | still_step)
              refine wpStill_nil ?_
              go_wp2_with fail
              refine (C.out _).mono ?_
              rintro e w3 ⟨rfl, hb3⟩
              have T3 := Lib.hid (T2.out.keep hg hb3)
              clear hb3 T2 tv c0 c1
              have hrd := range_keep hr.out T3.out.be hb
              have T4 := Lib.hid (T3.out.keep hg ((Below.refl _ _).alloc (Nat.le_refl _) (.cells (ints (chAt L i)).toArray 58)))
              have S5 := Lib.hid (fun j u (hu : (ints (chAt L i))[j]? = some u) => show (w3.alloc (.cells (ints (chAt L i)).toArray 58)).cell? (Addr.add ⟨w3.heap.size, 0, none⟩ j) = some u by
                rw [add_plain, Nat.zero_add, cell_of_row _ _ j _ _ _ (heap_alloc_new _ _)]
                simpa using hu)
              have hk1 := lackN_le v L i
              go_wp2_with (first
                | ((with_reducible apply chg_load); (· rfl); (· (first | assumption)); (· assumption); (simp only [Act.put, List.setIfInBounds_toArray, List.set_cons_zero, List.set_cons_succ]))
                | ((with_reducible apply bs_one Try.underlying52 chg_whole (by decide) (by decide)); (· rfl); (· first | assumption); (simp only [Act.put, List.setIfInBounds_toArray, List.set_cons_zero, List.set_cons_succ]))
                | (at_builtin; refine wpList_append_own _ rfl _ _ 52 rfl (g + 1) 58 i0 (.agg #[.int .i64 0, .int .i64 0, .int .i64 0, .int .i64 0, .int .i64 0, .int .i64 0, .int .i64 0, .int .i64 0, .int .i64 0]) 9 72 Try.underlying52 hi hz0 hz1 hz2 rfl (by decide) _ _ _ rfl T4.out.ow ⟨w3.heap.size, 0, none⟩ 1 1 (ints (chAt L i)) rfl (by rw [ints_len, h9.out]) S5.out (fun u hu => ints_one hu) ?c1 ?c2 ?c3 ?_))
              case c1 => simp only [maxLen]; omega
              case c2 => omega
              case c3 => exact T4.out.sz
              intro v' w5 hown hgr hnil
              have G1 := Below.grown (B := g + 1) (Below.refl (g + 1) _) hgr T4.out.sz fun g' hg' => (T4.out.ow.lt g' hg').1
              rw [← ints_app] at hown
              have T5 := Lib.hid (Tell.mk (T4.out.va.keep G1 (by omega)) (T4.out.id.keep G1 (by omega)) (T4.out.wa.keep G1 (Nat.lt_succ_self _)) hown (Nat.le_trans T4.out.sz G1.size) (T4.out.be.trans (G1.mono (by omega))))
              clear hown hgr hnil G1
              go_wp2_with fail
              go_roundg (gk - 1)
              case measure => omega
              case rel => exact ⟨i + 1, by omega, by go_num, by rw [EW.out, E.out.1, E.out.2]; exact T5⟩
            · have C := Lib.hid (fun w => known8_is hv hkn w)
              have E := Lib.hid (lackTo_yes (v := v) (L := L) (k := i) (by rw [HRR.out, HSS.out]; exact hkn))
              clear hkn
              refine wp_region_still_tail 6 (by kernel_rfl) (by kernel_rfl) ?_
              simp only [List.take_succ_cons, List.take_zero, List.drop_succ_cons, List.drop_zero]
              change wpStill _ _ (World.drew wc) (fun a' => wpList _ _ _ _ a' (World.drew wc)) _ _
              have T2d := Lib.hid (T2.out.keep hg (Below.refl wc.heap.size wc).drew)
              clear T2
              generalize wc.drew = wd at *
              have T2 := T2d
              clear T2d
              have tv := T2.out.va.vec hv
              have hrc := range_keep hr.out T2.out.be hb
              have c0 : wd.cell? ⟨b, off + i * 9, none⟩ = some (.int .i64 k) := by rw [← HRR.out]; exact (hrc 0 _ ((ints_get _ 0 (by rw [h9.out]; decide)).trans (by rw [chAt_get (by decide)]; rfl)))
              have c1 : wd.cell? ⟨b, off + i * 9 + 1, none⟩ = some (.int .i64 s1) := by rw [← HSS.out]; exact (hrc 1 _ ((ints_get _ 1 (by rw [h9.out]; decide)).trans (by rw [chAt_get (by decide)])))
              clear hrc
              repeat (first
                | ((with_reducible apply vec_load_st); (· rfl); (· rfl); (· (first | assumption | exact Blk.vec (by assumption) (by assumption))); (· assumption); (simp only [Act.put, List.setIfInBounds_toArray, List.set_cons_zero, List.set_cons_succ]))
                | still_step)
              refine wpStill_nil ?_
              go_wp2_with fail
              refine (C.out _).mono ?_
              rintro e w3 ⟨rfl, hb3⟩
              have T3 := Lib.hid (T2.out.keep hg hb3)
              clear hb3 T2 tv c0 c1
              go_wp2_with fail
              go_roundg (gk - 1)
              case measure => omega
              case rel => exact ⟨i + 1, by omega, by go_num, by rw [EW.out, E.out.1, E.out.2]; exact T3⟩
          · have EW := Lib.hid (show ofTo L (i + 1) = ofTo L i by rw [EY.out, show max x s1 = x by omega, ← HX.out, set_same _ _ (by rw [h4x.out]; exact hk)])
            go_upto_region 10 with fail
            go_quiet (fail)
            have T2s := Lib.hid (T.out.keep hg (Go.Joins.below_draws wr.heap.size wr nq))
            clear c0 c1 c2 T
            go_upto_region 12 with fail
            generalize wr.drewN nq = wc at *
            have T2 := T2s
            clear T2s
            rcases hkn : known v k s1 with _ | _
            · have C := Lib.hid (fun w => known8_is hv hkn w)
              have E := Lib.hid (lackTo_no (v := v) (L := L) (k := i) (by rw [HRR.out, HSS.out]; exact hkn))
              clear hkn
              refine wp_region_still_tail 6 (by kernel_rfl) (by kernel_rfl) ?_
              simp only [List.take_succ_cons, List.take_zero, List.drop_succ_cons, List.drop_zero]
              change wpStill _ _ (World.drew wc) (fun a' => wpList _ _ _ _ a' (World.drew wc)) _ _
              have T2d := Lib.hid (T2.out.keep hg (Below.refl wc.heap.size wc).drew)
              clear T2
              generalize wc.drew = wd at *
              have T2 := T2d
              clear T2d
              have tv := T2.out.va.vec hv
              have hrc := range_keep hr.out T2.out.be hb
              have c0 : wd.cell? ⟨b, off + i * 9, none⟩ = some (.int .i64 k) := by rw [← HRR.out]; exact (hrc 0 _ ((ints_get _ 0 (by rw [h9.out]; decide)).trans (by rw [chAt_get (by decide)]; rfl)))
              have c1 : wd.cell? ⟨b, off + i * 9 + 1, none⟩ = some (.int .i64 s1) := by rw [← HSS.out]; exact (hrc 1 _ ((ints_get _ 1 (by rw [h9.out]; decide)).trans (by rw [chAt_get (by decide)])))
              clear hrc
              repeat (first
                | ((with_reducible apply vec_load_st); (· rfl); (· rfl); (· (first | assumption | exact Blk.vec (by assumption) (by assumption))); (· assumption); (simp only [Act.put, List.setIfInBounds_toArray, List.set_cons_zero, List.set_cons_succ]))
                | still_step)
              refine wpStill_nil ?_
              go_wp2_with fail
              refine (C.out _).mono ?_
              rintro e w3 ⟨rfl, hb3⟩
              have T3 := Lib.hid (T2.out.keep hg hb3)
              clear hb3 T2 tv c0 c1
              have hrd := range_keep hr.out T3.out.be hb
              have T4 := Lib.hid (T3.out.keep hg ((Below.refl _ _).alloc (Nat.le_refl _) (.cells (ints (chAt L i)).toArray 58)))
              have S5 := Lib.hid (fun j u (hu : (ints (chAt L i))[j]? = some u) => show (w3.alloc (.cells (ints (chAt L i)).toArray 58)).cell? (Addr.add ⟨w3.heap.size, 0, none⟩ j) = some u by
                rw [add_plain, Nat.zero_add, cell_of_row _ _ j _ _ _ (heap_alloc_new _ _)]
                simpa using hu)
              have hk1 := lackN_le v L i
              go_wp2_with (first
                | ((with_reducible apply chg_load); (· rfl); (· (first | assumption)); (· assumption); (simp only [Act.put, List.setIfInBounds_toArray, List.set_cons_zero, List.set_cons_succ]))
                | ((with_reducible apply bs_one Try.underlying52 chg_whole (by decide) (by decide)); (· rfl); (· first | assumption); (simp only [Act.put, List.setIfInBounds_toArray, List.set_cons_zero, List.set_cons_succ]))
                | (at_builtin; refine wpList_append_own _ rfl _ _ 52 rfl (g + 1) 58 i0 (.agg #[.int .i64 0, .int .i64 0, .int .i64 0, .int .i64 0, .int .i64 0, .int .i64 0, .int .i64 0, .int .i64 0, .int .i64 0]) 9 72 Try.underlying52 hi hz0 hz1 hz2 rfl (by decide) _ _ _ rfl T4.out.ow ⟨w3.heap.size, 0, none⟩ 1 1 (ints (chAt L i)) rfl (by rw [ints_len, h9.out]) S5.out (fun u hu => ints_one hu) ?c1 ?c2 ?c3 ?_))
              case c1 => simp only [maxLen]; omega
              case c2 => omega
              case c3 => exact T4.out.sz
              intro v' w5 hown hgr hnil
              have G1 := Below.grown (B := g + 1) (Below.refl (g + 1) _) hgr T4.out.sz fun g' hg' => (T4.out.ow.lt g' hg').1
              rw [← ints_app] at hown
              have T5 := Lib.hid (Tell.mk (T4.out.va.keep G1 (by omega)) (T4.out.id.keep G1 (by omega)) (T4.out.wa.keep G1 (Nat.lt_succ_self _)) hown (Nat.le_trans T4.out.sz G1.size) (T4.out.be.trans (G1.mono (by omega))))
              clear hown hgr hnil G1
              go_wp2_with fail
              go_roundg (gk - 1)
              case measure => omega
              case rel => exact ⟨i + 1, by omega, by go_num, by rw [EW.out, E.out.1, E.out.2]; exact T5⟩
            · have C := Lib.hid (fun w => known8_is hv hkn w)
              have E := Lib.hid (lackTo_yes (v := v) (L := L) (k := i) (by rw [HRR.out, HSS.out]; exact hkn))
              clear hkn
              refine wp_region_still_tail 6 (by kernel_rfl) (by kernel_rfl) ?_
              simp only [List.take_succ_cons, List.take_zero, List.drop_succ_cons, List.drop_zero]
              change wpStill _ _ (World.drew wc) (fun a' => wpList _ _ _ _ a' (World.drew wc)) _ _
              have T2d := Lib.hid (T2.out.keep hg (Below.refl wc.heap.size wc).drew)
              clear T2
              generalize wc.drew = wd at *
              have T2 := T2d
              clear T2d
              have tv := T2.out.va.vec hv
              have hrc := range_keep hr.out T2.out.be hb
              have c0 : wd.cell? ⟨b, off + i * 9, none⟩ = some (.int .i64 k) := by rw [← HRR.out]; exact (hrc 0 _ ((ints_get _ 0 (by rw [h9.out]; decide)).trans (by rw [chAt_get (by decide)]; rfl)))
              have c1 : wd.cell? ⟨b, off + i * 9 + 1, none⟩ = some (.int .i64 s1) := by rw [← HSS.out]; exact (hrc 1 _ ((ints_get _ 1 (by rw [h9.out]; decide)).trans (by rw [chAt_get (by decide)])))
              clear hrc
              repeat (first
                | ((with_reducible apply vec_load_st); (· rfl); (· rfl); (· (first | assumption | exact Blk.vec (by assumption) (by assumption))); (· assumption); (simp only [Act.put, List.setIfInBounds_toArray, List.set_cons_zero, List.set_cons_succ]))
                | still_step)
              refine wpStill_nil ?_
              go_wp2_with fail
              refine (C.out _).mono ?_
              rintro e w3 ⟨rfl, hb3⟩
              have T3 := Lib.hid (T2.out.keep hg hb3)
              clear hb3 T2 tv c0 c1
              go_wp2_with fail
              go_roundg (gk - 1)
              case measure => omega
              case rel => exact ⟨i + 1, by omega, by go_num, by rw [EW.out, E.out.1, E.out.2]; exact T3⟩
        · have hrep : isRep r1 = false := by unfold isRep; rw [decide_eq_false h4, Bool.and_false]
          have EW := Lib.hid (show ofTo L (i + 1) = ofTo L i from ofTo_no (by rw [HRR.out]; exact hrep))
          have hkn := known_out (v := v) (s := s1) hrep
          have C := Lib.hid (fun w => known8_is hv hkn w)
          have E := Lib.hid (lackTo_no (v := v) (L := L) (k := i) (by rw [HRR.out, HSS.out]; exact hkn))
          clear hkn hrep
          go_upto_region 10 with fail
          go_quiet (fail)
          have T2s := Lib.hid (T.out.keep hg (Go.Joins.below_draws wr.heap.size wr nq))
          clear c0 c1 T
          go_upto_region 12 with fail
          generalize wr.drewN nq = wc at *
          have T2 := T2s
          clear T2s
          refine wp_region_still_tail 6 (by kernel_rfl) (by kernel_rfl) ?_
          simp only [List.take_succ_cons, List.take_zero, List.drop_succ_cons, List.drop_zero]
          change wpStill _ _ (World.drew wc) (fun a' => wpList _ _ _ _ a' (World.drew wc)) _ _
          have T2d := Lib.hid (T2.out.keep hg (Below.refl wc.heap.size wc).drew)
          clear T2
          generalize wc.drew = wd at *
          have T2 := T2d
          clear T2d
          have tv := T2.out.va.vec hv
          have hrc := range_keep hr.out T2.out.be hb
          have c0 : wd.cell? ⟨b, off + i * 9, none⟩ = some (.int .i64 r1) := by rw [← HRR.out]; exact (hrc 0 _ ((ints_get _ 0 (by rw [h9.out]; decide)).trans (by rw [chAt_get (by decide)]; rfl)))
          have c1 : wd.cell? ⟨b, off + i * 9 + 1, none⟩ = some (.int .i64 s1) := by rw [← HSS.out]; exact (hrc 1 _ ((ints_get _ 1 (by rw [h9.out]; decide)).trans (by rw [chAt_get (by decide)])))
          clear hrc
          repeat (first
            | ((with_reducible apply vec_load_st); (· rfl); (· rfl); (· (first | assumption | exact Blk.vec (by assumption) (by assumption))); (· assumption); (simp only [Act.put, List.setIfInBounds_toArray, List.set_cons_zero, List.set_cons_succ]))
            | still_step)
          refine wpStill_nil ?_
          go_wp2_with fail
          refine (C.out _).mono ?_
          rintro e w3 ⟨rfl, hb3⟩
          have T3 := Lib.hid (T2.out.keep hg hb3)
          clear hb3 T2 tv c0 c1
          have hrd := range_keep hr.out T3.out.be hb
          have T4 := Lib.hid (T3.out.keep hg ((Below.refl _ _).alloc (Nat.le_refl _) (.cells (ints (chAt L i)).toArray 58)))
          have S5 := Lib.hid (fun j u (hu : (ints (chAt L i))[j]? = some u) => show (w3.alloc (.cells (ints (chAt L i)).toArray 58)).cell? (Addr.add ⟨w3.heap.size, 0, none⟩ j) = some u by
            rw [add_plain, Nat.zero_add, cell_of_row _ _ j _ _ _ (heap_alloc_new _ _)]
            simpa using hu)
          have hk1 := lackN_le v L i
          go_wp2_with (first
            | ((with_reducible apply chg_load); (· rfl); (· (first | assumption)); (· assumption); (simp only [Act.put, List.setIfInBounds_toArray, List.set_cons_zero, List.set_cons_succ]))
            | ((with_reducible apply bs_one Try.underlying52 chg_whole (by decide) (by decide)); (· rfl); (· first | assumption); (simp only [Act.put, List.setIfInBounds_toArray, List.set_cons_zero, List.set_cons_succ]))
            | (at_builtin; refine wpList_append_own _ rfl _ _ 52 rfl (g + 1) 58 i0 (.agg #[.int .i64 0, .int .i64 0, .int .i64 0, .int .i64 0, .int .i64 0, .int .i64 0, .int .i64 0, .int .i64 0, .int .i64 0]) 9 72 Try.underlying52 hi hz0 hz1 hz2 rfl (by decide) _ _ _ rfl T4.out.ow ⟨w3.heap.size, 0, none⟩ 1 1 (ints (chAt L i)) rfl (by rw [ints_len, h9.out]) S5.out (fun u hu => ints_one hu) ?c1 ?c2 ?c3 ?_))
          case c1 => simp only [maxLen]; omega
          case c2 => omega
          case c3 => exact T4.out.sz
          intro v' w5 hown hgr hnil
          have G1 := Below.grown (B := g + 1) (Below.refl (g + 1) _) hgr T4.out.sz fun g' hg' => (T4.out.ow.lt g' hg').1
          rw [← ints_app] at hown
          have T5 := Lib.hid (Tell.mk (T4.out.va.keep G1 (by omega)) (T4.out.id.keep G1 (by omega)) (T4.out.wa.keep G1 (Nat.lt_succ_self _)) hown (Nat.le_trans T4.out.sz G1.size) (T4.out.be.trans (G1.mono (by omega))))
          clear hown hgr hnil G1
          go_wp2_with fail
          go_roundg (gk - 1)
          case measure => omega
          case rel => exact ⟨i + 1, by omega, by go_num, by rw [EW.out, E.out.1, E.out.2]; exact T5⟩
      · have hrep : isRep r1 = false := by unfold isRep; rw [decide_eq_false h0]; rfl
        have EW := Lib.hid (show ofTo L (i + 1) = ofTo L i from ofTo_no (by rw [HRR.out]; exact hrep))
        have hkn := known_out (v := v) (s := s1) hrep
        have C := Lib.hid (fun w => known8_is hv hkn w)
        have E := Lib.hid (lackTo_no (v := v) (L := L) (k := i) (by rw [HRR.out, HSS.out]; exact hkn))
        clear hkn hrep
        go_upto_region 10 with fail
        go_quiet (fail)
        have T2s := Lib.hid (T.out.keep hg (Go.Joins.below_draws wr.heap.size wr nq))
        clear c0 c1 T
        go_upto_region 12 with fail
        generalize wr.drewN nq = wc at *
        have T2 := T2s
        clear T2s
        refine wp_region_still_tail 6 (by kernel_rfl) (by kernel_rfl) ?_
        simp only [List.take_succ_cons, List.take_zero, List.drop_succ_cons, List.drop_zero]
        change wpStill _ _ (World.drew wc) (fun a' => wpList _ _ _ _ a' (World.drew wc)) _ _
        have T2d := Lib.hid (T2.out.keep hg (Below.refl wc.heap.size wc).drew)
        clear T2
        generalize wc.drew = wd at *
        have T2 := T2d
        clear T2d
        have tv := T2.out.va.vec hv
        have hrc := range_keep hr.out T2.out.be hb
        have c0 : wd.cell? ⟨b, off + i * 9, none⟩ = some (.int .i64 r1) := by rw [← HRR.out]; exact (hrc 0 _ ((ints_get _ 0 (by rw [h9.out]; decide)).trans (by rw [chAt_get (by decide)]; rfl)))
        have c1 : wd.cell? ⟨b, off + i * 9 + 1, none⟩ = some (.int .i64 s1) := by rw [← HSS.out]; exact (hrc 1 _ ((ints_get _ 1 (by rw [h9.out]; decide)).trans (by rw [chAt_get (by decide)])))
        clear hrc
        repeat (first
          | ((with_reducible apply vec_load_st); (· rfl); (· rfl); (· (first | assumption | exact Blk.vec (by assumption) (by assumption))); (· assumption); (simp only [Act.put, List.setIfInBounds_toArray, List.set_cons_zero, List.set_cons_succ]))
          | still_step)
        refine wpStill_nil ?_
        go_wp2_with fail
        refine (C.out _).mono ?_
        rintro e w3 ⟨rfl, hb3⟩
        have T3 := Lib.hid (T2.out.keep hg hb3)
        clear hb3 T2 tv c0 c1
        have hrd := range_keep hr.out T3.out.be hb
        have T4 := Lib.hid (T3.out.keep hg ((Below.refl _ _).alloc (Nat.le_refl _) (.cells (ints (chAt L i)).toArray 58)))
        have S5 := Lib.hid (fun j u (hu : (ints (chAt L i))[j]? = some u) => show (w3.alloc (.cells (ints (chAt L i)).toArray 58)).cell? (Addr.add ⟨w3.heap.size, 0, none⟩ j) = some u by
          rw [add_plain, Nat.zero_add, cell_of_row _ _ j _ _ _ (heap_alloc_new _ _)]
          simpa using hu)
        have hk1 := lackN_le v L i
        go_wp2_with (first
          | ((with_reducible apply chg_load); (· rfl); (· (first | assumption)); (· assumption); (simp only [Act.put, List.setIfInBounds_toArray, List.set_cons_zero, List.set_cons_succ]))
          | ((with_reducible apply bs_one Try.underlying52 chg_whole (by decide) (by decide)); (· rfl); (· first | assumption); (simp only [Act.put, List.setIfInBounds_toArray, List.set_cons_zero, List.set_cons_succ]))
          | (at_builtin; refine wpList_append_own _ rfl _ _ 52 rfl (g + 1) 58 i0 (.agg #[.int .i64 0, .int .i64 0, .int .i64 0, .int .i64 0, .int .i64 0, .int .i64 0, .int .i64 0, .int .i64 0, .int .i64 0]) 9 72 Try.underlying52 hi hz0 hz1 hz2 rfl (by decide) _ _ _ rfl T4.out.ow ⟨w3.heap.size, 0, none⟩ 1 1 (ints (chAt L i)) rfl (by rw [ints_len, h9.out]) S5.out (fun u hu => ints_one hu) ?c1 ?c2 ?c3 ?_))
        case c1 => simp only [maxLen]; omega
        case c2 => omega
        case c3 => exact T4.out.sz
        intro v' w5 hown hgr hnil
        have G1 := Below.grown (B := g + 1) (Below.refl (g + 1) _) hgr T4.out.sz fun g' hg' => (T4.out.ow.lt g' hg').1
        rw [← ints_app] at hown
        have T5 := Lib.hid (Tell.mk (T4.out.va.keep G1 (by omega)) (T4.out.id.keep G1 (by omega)) (T4.out.wa.keep G1 (Nat.lt_succ_self _)) hown (Nat.le_trans T4.out.sz G1.size) (T4.out.be.trans (G1.mono (by omega))))
        clear hown hgr hnil G1
        go_wp2_with fail
        go_roundg (gk - 1)
        case measure => omega
        case rel => exact ⟨i + 1, by omega, by go_num, by rw [EW.out, E.out.1, E.out.2]; exact T5⟩
    · have hmi : (m : Int) ≤ i := by omega
      have tv := T.out.va.vec hv
      rcases hrep : isRep r with _ | _
      · have hro : r < 0 ∨ 4 ≤ r := by unfold isRep at hrep; rw [Bool.and_eq_false_iff, decide_eq_false_iff_not, decide_eq_false_iff_not] at hrep; omega
        have E1 := Lib.hid (show nextR v r = 0 by unfold nextR; rw [if_neg (by rw [hrep]; simp)])
        have E2 := Lib.hid (show nextS v r = 0 by unfold nextS; rw [if_neg (by rw [hrep]; simp)])
        clear hrep
        rcases hro with h0 | h4
        · go_upto_region 17 with fail
          have Tz := Lib.hid (T.out.keep hg ((Below.refl _ _).alloc (Nat.le_refl _) (.cells #[.int .i64 0, .int .i64 0] 55)))
          have NB := Lib.hid (Blk.new wr #[.int .i64 0, .int .i64 0] 55)
          generalize wr.alloc (.cells #[.int .i64 0, .int .i64 0] 55) = wz at *
          have him2 : m = i := by omega
          subst him2
          have h4w : Hid ((ofTo L m).length = 4) := Lib.hid (ofTo_len L m)
          have OKW := okInts (ofTo L m) (ofTo_fits HF.out m)
          rw [ofTo_len] at OKW
          have OKN : OkAll (List.replicate 2 (some .i64)) (ints [0, 0]) := by
            have h1 := nextR_fits v r HFV.out
            have h2 := nextS_fits v r HFV.out
            rw [E1.out] at h1
            rw [E2.out] at h2
            exact okInts [0, 0] (by intro k; rcases k with _ | _ | k; exact h1; exact h2; rfl)
          have CN := Lib.hid (fun w => by have := next_any v r w hv HFV.out; rw [E1.out, E2.out] at this; exact this)
          obtain ⟨ya, yc, rfl, _, _, hys⟩ := Sl.own Tz.out.ow
          refine held_begin (fun w' => Below wz.heap.size wz w') 28 [false, false, false, false, false, false, false, false, false, false, false, false, false, false, false, false, false, false, false, false, false, false, false, false, false, false, false, false] (by kernel_rfl) rfl (by rfl) ?_
          have hHeld : Below wz.heap.size wz wz.drew := (Below.refl _ _).drew
          refine held_take (v := ?_) 0 90 [true, false, false, false, false, false, false, false, false, false, false, false, false, false, false, false, false, false, false, false, false, false, false, false, false, false, false, false] rfl (by rfl) (by rfl) (by kernel_rfl) (by kernel_rfl) (by kernel_rfl) (by rfl) (fun _ _ _ h => h) ?_ hHeld ?_
          rotate_left
          · intro w hSw; go_simp <;> with_reducible rfl
          simp only [Act.put, List.setIfInBounds_toArray, List.set_cons_zero, List.set_cons_succ]
          refine held_take 2 92 [true, false, true, false, false, false, false, false, false, false, false, false, false, false, false, false, false, false, false, false, false, false, false, false, false, false, false, false] rfl (by rfl) (by rfl) (by kernel_rfl) (by kernel_rfl) (by kernel_rfl) (by rfl) (fun _ _ _ h => h) (fun w h => run_op_load rfl rfl ((Tz.out.keep hg h).wa.vec h4w) Try.underlying53 rfl (by rw [vec_size, ints_len, h4w.out])) hHeld ?_
          simp only [Act.put, List.setIfInBounds_toArray, List.set_cons_zero, List.set_cons_succ]
          refine held_call 1 91 [true, true, true, false, false, false, false, false, false, false, false, false, false, false, false, false, false, false, false, false, false, false, false, false, false, false, false, false] (by kernel_rfl) rfl (by rfl) (by rfl) (by rfl) (by go_simp) ((of_any a m c L _ (HS.out.keep (Tz.out.keep hg hHeld).be) (by omega)).mono ?_)
          rintro e w5 ⟨rfl, hb5⟩
          refine ⟨_, rfl, hHeld.trans (hb5.mono hHeld.size), fun hHeld => ?_⟩
          simp only [Act.put, List.setIfInBounds_toArray, List.set_cons_zero, List.set_cons_succ]
          have hHeld : Below wz.heap.size wz _ := hHeld
          refine held_take 3 93 [true, true, true, true, false, false, false, false, false, false, false, false, false, false, false, false, false, false, false, false, false, false, false, false, false, false, false, false] rfl (by rfl) (by rfl) (by kernel_rfl) (by kernel_rfl) (by kernel_rfl) (by rfl) (fun _ _ _ h => h) (fun w h => run_op_cmp rfl rfl rfl (by kernel_rfl) (by rw [eql_flat 2 2 53 _ _ _ w flat_vec (by kernel_rfl) (by kernel_rfl) (by kernel_rfl) (by decide) OKW OKW, sameB_refl])) hHeld ?_
          simp only [Act.put, List.setIfInBounds_toArray, List.set_cons_zero, List.set_cons_succ]
          refine held_take (v := ?_) 4 94 [true, true, true, true, true, false, false, false, false, false, false, false, false, false, false, false, false, false, false, false, false, false, false, false, false, false, false, false] rfl (by rfl) (by rfl) (by kernel_rfl) (by kernel_rfl) (by kernel_rfl) (by rfl) (fun _ _ _ h => h) ?_ hHeld ?_
          rotate_left
          · intro w hSw; go_simp <;> with_reducible rfl
          simp only [Act.put, List.setIfInBounds_toArray, List.set_cons_zero, List.set_cons_succ]
          refine held_take 5 95 [true, true, true, true, true, true, false, false, false, false, false, false, false, false, false, false, false, false, false, false, false, false, false, false, false, false, false, false] rfl (by rfl) (by rfl) (by kernel_rfl) (by kernel_rfl) (by kernel_rfl) (by rfl) (fun _ _ _ h => h) (fun w h => run_op_load rfl rfl ((Tz.out.keep hg h).va.vec hv) Try.underlying53 rfl (by rw [vec_size, ints_len, hv.out])) hHeld ?_
          simp only [Act.put, List.setIfInBounds_toArray, List.set_cons_zero, List.set_cons_succ]
          refine held_take 6 96 [true, true, true, true, true, true, true, false, false, false, false, false, false, false, false, false, false, false, false, false, false, false, false, false, false, false, false, false] rfl (by rfl) (by rfl) (by kernel_rfl) (by kernel_rfl) (by kernel_rfl) (by rfl) (fun _ _ _ h => h) (fun w h => run_op_load (cs := [.int .i64 p, .int .i64 q]) rfl rfl (Tz.out.keep hg h).idr Try.underlying55 rfl id_size) hHeld ?_
          simp only [Act.put, List.setIfInBounds_toArray, List.set_cons_zero, List.set_cons_succ]
          refine held_take 8 98 [true, true, true, true, true, true, true, false, true, false, false, false, false, false, false, false, false, false, false, false, false, false, false, false, false, false, false, false] rfl (by rfl) (by rfl) (by kernel_rfl) (by kernel_rfl) (by kernel_rfl) (by rfl) (fun _ _ _ h => h) (fun w h => run_op_load rfl rfl ((Tz.out.keep hg h).va.vec hv) Try.underlying53 rfl (by rw [vec_size, ints_len, hv.out])) hHeld ?_
          simp only [Act.put, List.setIfInBounds_toArray, List.set_cons_zero, List.set_cons_succ]
          refine held_take 9 99 [true, true, true, true, true, true, true, false, true, true, false, false, false, false, false, false, false, false, false, false, false, false, false, false, false, false, false, false] rfl (by rfl) (by rfl) (by kernel_rfl) (by kernel_rfl) (by kernel_rfl) (by rfl) (fun _ _ _ h => h) (fun w h => run_op_load (cs := [.int .i64 p, .int .i64 q]) rfl rfl (Tz.out.keep hg h).idr Try.underlying55 rfl id_size) hHeld ?_
          simp only [Act.put, List.setIfInBounds_toArray, List.set_cons_zero, List.set_cons_succ]
          refine held_call 7 97 [true, true, true, true, true, true, true, true, true, true, false, false, false, false, false, false, false, false, false, false, false, false, false, false, false, false, false, false] (by kernel_rfl) rfl (by rfl) (by rfl) (by rfl) (by go_simp) ((has_any v p q _ hv).mono ?_)
          rintro e w6 ⟨rfl, hb6⟩
          refine ⟨_, rfl, hHeld.trans (hb6.mono hHeld.size), fun hHeld => ?_⟩
          simp only [Act.put, List.setIfInBounds_toArray, List.set_cons_zero, List.set_cons_succ]
          have hHeld : Below wz.heap.size wz _ := hHeld
          refine held_call 10 100 [true, true, true, true, true, true, true, true, true, true, true, false, false, false, false, false, false, false, false, false, false, false, false, false, false, false, false, false] (by kernel_rfl) rfl (by rfl) (by rfl) (by rfl) (by go_simp) ((has8_any v p q _ hv).mono ?_)
          rintro e w7 ⟨rfl, hb7⟩
          refine ⟨_, rfl, hHeld.trans (hb7.mono hHeld.size), fun hHeld => ?_⟩
          simp only [Act.put, List.setIfInBounds_toArray, List.set_cons_zero, List.set_cons_succ]
          have hHeld : Below wz.heap.size wz _ := hHeld
          refine held_take (v := .bool true) 11 101 [true, true, true, true, true, true, true, true, true, true, true, true, false, false, false, false, false, false, false, false, false, false, false, false, false, false, false, false] rfl (by rfl) (by rfl) (by kernel_rfl) (by kernel_rfl) (by kernel_rfl) (by rfl) (fun _ _ _ h => h) (fun w h => by cases known v p q <;> go_simp) hHeld ?_
          simp only [Act.put, List.setIfInBounds_toArray, List.set_cons_zero, List.set_cons_succ]
          refine held_take (v := .bool true) 12 102 [true, true, true, true, true, true, true, true, true, true, true, true, true, false, false, false, false, false, false, false, false, false, false, false, false, false, false, false] rfl (by rfl) (by rfl) (by kernel_rfl) (by kernel_rfl) (by kernel_rfl) (by rfl) (fun _ _ _ h => h) (fun w h => by go_simp) hHeld ?_
          simp only [Act.put, List.setIfInBounds_toArray, List.set_cons_zero, List.set_cons_succ]
          refine held_take (v := ?_) 13 103 [true, true, true, true, true, true, true, true, true, true, true, true, true, true, false, false, false, false, false, false, false, false, false, false, false, false, false, false] rfl (by rfl) (by rfl) (by kernel_rfl) (by kernel_rfl) (by kernel_rfl) (by rfl) (fun _ _ _ h => h) ?_ hHeld ?_
          rotate_left
          · intro w hSw; go_simp <;> with_reducible rfl
          simp only [Act.put, List.setIfInBounds_toArray, List.set_cons_zero, List.set_cons_succ]
          refine held_take 14 104 [true, true, true, true, true, true, true, true, true, true, true, true, true, true, true, false, false, false, false, false, false, false, false, false, false, false, false, false] rfl (by rfl) (by rfl) (by kernel_rfl) (by kernel_rfl) (by kernel_rfl) (by rfl) (fun _ _ _ h => h) (fun w h => run_op_load rfl rfl ((Tz.out.keep hg h).va.vec hv) Try.underlying53 rfl (by rw [vec_size, ints_len, hv.out])) hHeld ?_
          simp only [Act.put, List.setIfInBounds_toArray, List.set_cons_zero, List.set_cons_succ]
          refine held_take (v := ?_) 15 105 [true, true, true, true, true, true, true, true, true, true, true, true, true, true, true, true, false, false, false, false, false, false, false, false, false, false, false, false] rfl (by rfl) (by rfl) (by kernel_rfl) (by kernel_rfl) (by kernel_rfl) (by rfl) (fun _ _ _ h => h) ?_ hHeld ?_
          rotate_left
          · intro w hSw; go_simp <;> with_reducible rfl
          simp only [Act.put, List.setIfInBounds_toArray, List.set_cons_zero, List.set_cons_succ]
          refine held_take (v := ?_) 17 107 [true, true, true, true, true, true, true, true, true, true, true, true, true, true, true, true, false, true, false, false, false, false, false, false, false, false, false, false] rfl (by rfl) (by rfl) (by kernel_rfl) (by kernel_rfl) (by kernel_rfl) (by rfl) (fun _ _ _ h => h) ?_ hHeld ?_
          rotate_left
          · intro w hSw; go_simp <;> with_reducible rfl
          simp only [Act.put, List.setIfInBounds_toArray, List.set_cons_zero, List.set_cons_succ]
          refine held_call 16 106 [true, true, true, true, true, true, true, true, true, true, true, true, true, true, true, true, true, true, false, false, false, false, false, false, false, false, false, false] (by kernel_rfl) rfl (by rfl) (by rfl) (by rfl) (by go_simp) ((lacking_any v a m c L _ hv (HS.out.keep (Tz.out.keep hg hHeld).be) (by omega)).mono ?_)
          rintro e w8 ⟨x, rfl, hox, hb8⟩
          obtain ⟨xa, xc, rfl, _, _, hxs⟩ := Sl.own hox
          refine ⟨_, rfl, hHeld.trans (hb8.mono hHeld.size), fun hHeld => ?_⟩
          simp only [Act.put, List.setIfInBounds_toArray, List.set_cons_zero, List.set_cons_succ]
          have hHeld : Below wz.heap.size wz _ := hHeld
          refine held_call 18 108 [true, true, true, true, true, true, true, true, true, true, true, true, true, true, true, true, true, true, true, false, false, false, false, false, false, false, false, false] (by kernel_rfl) rfl (by rfl) (by rfl) (by rfl) (by go_simp) ((changes_same xa ya (lackN v L m) xc yc (lackTo v L m) _ hxs (hys.keep hHeld) (by have := lackN_le v L m; omega) (lackTo_fits HF.out m)).mono ?_)
          rintro e w9 ⟨rfl, hb9⟩
          refine ⟨_, rfl, hHeld.trans (hb9.mono hHeld.size), fun hHeld => ?_⟩
          simp only [Act.put, List.setIfInBounds_toArray, List.set_cons_zero, List.set_cons_succ]
          have hHeld : Below wz.heap.size wz _ := hHeld
          refine held_take (v := .bool true) 19 109 [true, true, true, true, true, true, true, true, true, true, true, true, true, true, true, true, true, true, true, true, false, false, false, false, false, false, false, false] rfl (by rfl) (by rfl) (by kernel_rfl) (by kernel_rfl) (by kernel_rfl) (by rfl) (fun _ _ _ h => h) (fun w h => by go_simp) hHeld ?_
          simp only [Act.put, List.setIfInBounds_toArray, List.set_cons_zero, List.set_cons_succ]
          refine held_take (v := ?_) 20 110 [true, true, true, true, true, true, true, true, true, true, true, true, true, true, true, true, true, true, true, true, true, false, false, false, false, false, false, false] rfl (by rfl) (by rfl) (by kernel_rfl) (by kernel_rfl) (by kernel_rfl) (by rfl) (fun _ _ _ h => h) ?_ hHeld ?_
          rotate_left
          · intro w hSw; go_simp <;> with_reducible rfl
          simp only [Act.put, List.setIfInBounds_toArray, List.set_cons_zero, List.set_cons_succ]
          refine held_take 21 111 [true, true, true, true, true, true, true, true, true, true, true, true, true, true, true, true, true, true, true, true, true, true, false, false, false, false, false, false] rfl (by rfl) (by rfl) (by kernel_rfl) (by kernel_rfl) (by kernel_rfl) (by rfl) (fun _ _ _ h => h) (fun w h => run_op_load rfl rfl ((Tz.out.keep hg h).va.vec hv) Try.underlying53 rfl (by rw [vec_size, ints_len, hv.out])) hHeld ?_
          simp only [Act.put, List.setIfInBounds_toArray, List.set_cons_zero, List.set_cons_succ]
          refine held_take (v := ?_) 22 112 [true, true, true, true, true, true, true, true, true, true, true, true, true, true, true, true, true, true, true, true, true, true, true, false, false, false, false, false] rfl (by rfl) (by rfl) (by kernel_rfl) (by kernel_rfl) (by kernel_rfl) (by rfl) (fun _ _ _ h => h) ?_ hHeld ?_
          rotate_left
          · intro w hSw; go_simp <;> with_reducible rfl
          simp only [Act.put, List.setIfInBounds_toArray, List.set_cons_zero, List.set_cons_succ]
          refine held_take 24 114 [true, true, true, true, true, true, true, true, true, true, true, true, true, true, true, true, true, true, true, true, true, true, true, false, true, false, false, false] rfl (by rfl) (by rfl) (by kernel_rfl) (by kernel_rfl) (by kernel_rfl) (by rfl) (fun _ _ _ h => h) (fun w h => run_op_load (cs := [.int .i64 0, .int .i64 0]) rfl rfl (NB.out.keep h NB.out.lt).two Try.underlying55 rfl id_size) hHeld ?_
          simp only [Act.put, List.setIfInBounds_toArray, List.set_cons_zero, List.set_cons_succ]
          refine held_call 23 113 [true, true, true, true, true, true, true, true, true, true, true, true, true, true, true, true, true, true, true, true, true, true, true, true, true, false, false, false] (by kernel_rfl) rfl (by rfl) (by rfl) (by rfl) (by go_simp) ((CN.out _).mono ?_)
          rintro e w10 ⟨rfl, hb10⟩
          refine ⟨_, rfl, hHeld.trans (hb10.mono hHeld.size), fun hHeld => ?_⟩
          simp only [Act.put, List.setIfInBounds_toArray, List.set_cons_zero, List.set_cons_succ]
          have hHeld : Below wz.heap.size wz _ := hHeld
          refine held_take 25 115 [true, true, true, true, true, true, true, true, true, true, true, true, true, true, true, true, true, true, true, true, true, true, true, true, true, true, false, false] rfl (by rfl) (by rfl) (by kernel_rfl) (by kernel_rfl) (by kernel_rfl) (by rfl) (fun _ _ _ h => h) (fun w h => run_op_cmp (xs := (ints [0, 0]).toArray) (ys := (ints [0, 0]).toArray) rfl rfl rfl (by kernel_rfl) (by rw [eql_flat 2 3 55 _ _ _ w flat_id (by kernel_rfl) (by kernel_rfl) (by kernel_rfl) (by decide) OKN OKN, sameB_refl])) hHeld ?_
          simp only [Act.put, List.setIfInBounds_toArray, List.set_cons_zero, List.set_cons_succ]
          refine held_take (v := .bool true) 26 116 [true, true, true, true, true, true, true, true, true, true, true, true, true, true, true, true, true, true, true, true, true, true, true, true, true, true, true, false] rfl (by rfl) (by rfl) (by kernel_rfl) (by kernel_rfl) (by kernel_rfl) (by rfl) (fun _ _ _ h => h) (fun w h => by go_simp) hHeld ?_
          simp only [Act.put, List.setIfInBounds_toArray, List.set_cons_zero, List.set_cons_succ]
          refine held_take (v := ?_) 27 8 [true, true, true, true, true, true, true, true, true, true, true, true, true, true, true, true, true, true, true, true, true, true, true, true, true, true, true, true] rfl (by rfl) (by rfl) (by kernel_rfl) (by kernel_rfl) (by kernel_rfl) (by rfl) (fun _ _ _ h => h) ?_ hHeld ?_
          rotate_left
          · intro w hSw; go_simp <;> with_reducible rfl
          simp only [Act.put, List.setIfInBounds_toArray, List.set_cons_zero, List.set_cons_succ]
          refine held_done (by kernel_rfl) ?_
          go_wp2_with fail
          go_ret
          exact ⟨rfl, Tz.out.be.trans (hHeld.mono (by have := Tz.out.sz; omega))⟩
        · have h0 : 0 ≤ r := by omega
          go_upto_region 17 with fail
          have Tz := Lib.hid (T.out.keep hg ((Below.refl _ _).alloc (Nat.le_refl _) (.cells #[.int .i64 0, .int .i64 0] 55)))
          have NB := Lib.hid (Blk.new wr #[.int .i64 0, .int .i64 0] 55)
          generalize wr.alloc (.cells #[.int .i64 0, .int .i64 0] 55) = wz at *
          have him2 : m = i := by omega
          subst him2
          have h4w : Hid ((ofTo L m).length = 4) := Lib.hid (ofTo_len L m)
          have OKW := okInts (ofTo L m) (ofTo_fits HF.out m)
          rw [ofTo_len] at OKW
          have OKN : OkAll (List.replicate 2 (some .i64)) (ints [0, 0]) := by
            have h1 := nextR_fits v r HFV.out
            have h2 := nextS_fits v r HFV.out
            rw [E1.out] at h1
            rw [E2.out] at h2
            exact okInts [0, 0] (by intro k; rcases k with _ | _ | k; exact h1; exact h2; rfl)
          have CN := Lib.hid (fun w => by have := next_any v r w hv HFV.out; rw [E1.out, E2.out] at this; exact this)
          obtain ⟨ya, yc, rfl, _, _, hys⟩ := Sl.own Tz.out.ow
          refine held_begin (fun w' => Below wz.heap.size wz w') 28 [false, false, false, false, false, false, false, false, false, false, false, false, false, false, false, false, false, false, false, false, false, false, false, false, false, false, false, false] (by kernel_rfl) rfl (by rfl) ?_
          have hHeld : Below wz.heap.size wz wz.drew := (Below.refl _ _).drew
          refine held_take (v := ?_) 0 90 [true, false, false, false, false, false, false, false, false, false, false, false, false, false, false, false, false, false, false, false, false, false, false, false, false, false, false, false] rfl (by rfl) (by rfl) (by kernel_rfl) (by kernel_rfl) (by kernel_rfl) (by rfl) (fun _ _ _ h => h) ?_ hHeld ?_
          rotate_left
          · intro w hSw; go_simp <;> with_reducible rfl
          simp only [Act.put, List.setIfInBounds_toArray, List.set_cons_zero, List.set_cons_succ]
          refine held_take 2 92 [true, false, true, false, false, false, false, false, false, false, false, false, false, false, false, false, false, false, false, false, false, false, false, false, false, false, false, false] rfl (by rfl) (by rfl) (by kernel_rfl) (by kernel_rfl) (by kernel_rfl) (by rfl) (fun _ _ _ h => h) (fun w h => run_op_load rfl rfl ((Tz.out.keep hg h).wa.vec h4w) Try.underlying53 rfl (by rw [vec_size, ints_len, h4w.out])) hHeld ?_
          simp only [Act.put, List.setIfInBounds_toArray, List.set_cons_zero, List.set_cons_succ]
          refine held_call 1 91 [true, true, true, false, false, false, false, false, false, false, false, false, false, false, false, false, false, false, false, false, false, false, false, false, false, false, false, false] (by kernel_rfl) rfl (by rfl) (by rfl) (by rfl) (by go_simp) ((of_any a m c L _ (HS.out.keep (Tz.out.keep hg hHeld).be) (by omega)).mono ?_)
          rintro e w5 ⟨rfl, hb5⟩
          refine ⟨_, rfl, hHeld.trans (hb5.mono hHeld.size), fun hHeld => ?_⟩
          simp only [Act.put, List.setIfInBounds_toArray, List.set_cons_zero, List.set_cons_succ]
          have hHeld : Below wz.heap.size wz _ := hHeld
          refine held_take 3 93 [true, true, true, true, false, false, false, false, false, false, false, false, false, false, false, false, false, false, false, false, false, false, false, false, false, false, false, false] rfl (by rfl) (by rfl) (by kernel_rfl) (by kernel_rfl) (by kernel_rfl) (by rfl) (fun _ _ _ h => h) (fun w h => run_op_cmp rfl rfl rfl (by kernel_rfl) (by rw [eql_flat 2 2 53 _ _ _ w flat_vec (by kernel_rfl) (by kernel_rfl) (by kernel_rfl) (by decide) OKW OKW, sameB_refl])) hHeld ?_
          simp only [Act.put, List.setIfInBounds_toArray, List.set_cons_zero, List.set_cons_succ]
          refine held_take (v := ?_) 4 94 [true, true, true, true, true, false, false, false, false, false, false, false, false, false, false, false, false, false, false, false, false, false, false, false, false, false, false, false] rfl (by rfl) (by rfl) (by kernel_rfl) (by kernel_rfl) (by kernel_rfl) (by rfl) (fun _ _ _ h => h) ?_ hHeld ?_
          rotate_left
          · intro w hSw; go_simp <;> with_reducible rfl
          simp only [Act.put, List.setIfInBounds_toArray, List.set_cons_zero, List.set_cons_succ]
          refine held_take 5 95 [true, true, true, true, true, true, false, false, false, false, false, false, false, false, false, false, false, false, false, false, false, false, false, false, false, false, false, false] rfl (by rfl) (by rfl) (by kernel_rfl) (by kernel_rfl) (by kernel_rfl) (by rfl) (fun _ _ _ h => h) (fun w h => run_op_load rfl rfl ((Tz.out.keep hg h).va.vec hv) Try.underlying53 rfl (by rw [vec_size, ints_len, hv.out])) hHeld ?_
          simp only [Act.put, List.setIfInBounds_toArray, List.set_cons_zero, List.set_cons_succ]
          refine held_take 6 96 [true, true, true, true, true, true, true, false, false, false, false, false, false, false, false, false, false, false, false, false, false, false, false, false, false, false, false, false] rfl (by rfl) (by rfl) (by kernel_rfl) (by kernel_rfl) (by kernel_rfl) (by rfl) (fun _ _ _ h => h) (fun w h => run_op_load (cs := [.int .i64 p, .int .i64 q]) rfl rfl (Tz.out.keep hg h).idr Try.underlying55 rfl id_size) hHeld ?_
          simp only [Act.put, List.setIfInBounds_toArray, List.set_cons_zero, List.set_cons_succ]
          refine held_take 8 98 [true, true, true, true, true, true, true, false, true, false, false, false, false, false, false, false, false, false, false, false, false, false, false, false, false, false, false, false] rfl (by rfl) (by rfl) (by kernel_rfl) (by kernel_rfl) (by kernel_rfl) (by rfl) (fun _ _ _ h => h) (fun w h => run_op_load rfl rfl ((Tz.out.keep hg h).va.vec hv) Try.underlying53 rfl (by rw [vec_size, ints_len, hv.out])) hHeld ?_
          simp only [Act.put, List.setIfInBounds_toArray, List.set_cons_zero, List.set_cons_succ]
          refine held_take 9 99 [true, true, true, true, true, true, true, false, true, true, false, false, false, false, false, false, false, false, false, false, false, false, false, false, false, false, false, false] rfl (by rfl) (by rfl) (by kernel_rfl) (by kernel_rfl) (by kernel_rfl) (by rfl) (fun _ _ _ h => h) (fun w h => run_op_load (cs := [.int .i64 p, .int .i64 q]) rfl rfl (Tz.out.keep hg h).idr Try.underlying55 rfl id_size) hHeld ?_
          simp only [Act.put, List.setIfInBounds_toArray, List.set_cons_zero, List.set_cons_succ]
          refine held_call 7 97 [true, true, true, true, true, true, true, true, true, true, false, false, false, false, false, false, false, false, false, false, false, false, false, false, false, false, false, false] (by kernel_rfl) rfl (by rfl) (by rfl) (by rfl) (by go_simp) ((has_any v p q _ hv).mono ?_)
          rintro e w6 ⟨rfl, hb6⟩
          refine ⟨_, rfl, hHeld.trans (hb6.mono hHeld.size), fun hHeld => ?_⟩
          simp only [Act.put, List.setIfInBounds_toArray, List.set_cons_zero, List.set_cons_succ]
          have hHeld : Below wz.heap.size wz _ := hHeld
          refine held_call 10 100 [true, true, true, true, true, true, true, true, true, true, true, false, false, false, false, false, false, false, false, false, false, false, false, false, false, false, false, false] (by kernel_rfl) rfl (by rfl) (by rfl) (by rfl) (by go_simp) ((has8_any v p q _ hv).mono ?_)
          rintro e w7 ⟨rfl, hb7⟩
          refine ⟨_, rfl, hHeld.trans (hb7.mono hHeld.size), fun hHeld => ?_⟩
          simp only [Act.put, List.setIfInBounds_toArray, List.set_cons_zero, List.set_cons_succ]
          have hHeld : Below wz.heap.size wz _ := hHeld
          refine held_take (v := .bool true) 11 101 [true, true, true, true, true, true, true, true, true, true, true, true, false, false, false, false, false, false, false, false, false, false, false, false, false, false, false, false] rfl (by rfl) (by rfl) (by kernel_rfl) (by kernel_rfl) (by kernel_rfl) (by rfl) (fun _ _ _ h => h) (fun w h => by cases known v p q <;> go_simp) hHeld ?_
          simp only [Act.put, List.setIfInBounds_toArray, List.set_cons_zero, List.set_cons_succ]
          refine held_take (v := .bool true) 12 102 [true, true, true, true, true, true, true, true, true, true, true, true, true, false, false, false, false, false, false, false, false, false, false, false, false, false, false, false] rfl (by rfl) (by rfl) (by kernel_rfl) (by kernel_rfl) (by kernel_rfl) (by rfl) (fun _ _ _ h => h) (fun w h => by go_simp) hHeld ?_
          simp only [Act.put, List.setIfInBounds_toArray, List.set_cons_zero, List.set_cons_succ]
          refine held_take (v := ?_) 13 103 [true, true, true, true, true, true, true, true, true, true, true, true, true, true, false, false, false, false, false, false, false, false, false, false, false, false, false, false] rfl (by rfl) (by rfl) (by kernel_rfl) (by kernel_rfl) (by kernel_rfl) (by rfl) (fun _ _ _ h => h) ?_ hHeld ?_
          rotate_left
          · intro w hSw; go_simp <;> with_reducible rfl
          simp only [Act.put, List.setIfInBounds_toArray, List.set_cons_zero, List.set_cons_succ]
          refine held_take 14 104 [true, true, true, true, true, true, true, true, true, true, true, true, true, true, true, false, false, false, false, false, false, false, false, false, false, false, false, false] rfl (by rfl) (by rfl) (by kernel_rfl) (by kernel_rfl) (by kernel_rfl) (by rfl) (fun _ _ _ h => h) (fun w h => run_op_load rfl rfl ((Tz.out.keep hg h).va.vec hv) Try.underlying53 rfl (by rw [vec_size, ints_len, hv.out])) hHeld ?_
          simp only [Act.put, List.setIfInBounds_toArray, List.set_cons_zero, List.set_cons_succ]
          refine held_take (v := ?_) 15 105 [true, true, true, true, true, true, true, true, true, true, true, true, true, true, true, true, false, false, false, false, false, false, false, false, false, false, false, false] rfl (by rfl) (by rfl) (by kernel_rfl) (by kernel_rfl) (by kernel_rfl) (by rfl) (fun _ _ _ h => h) ?_ hHeld ?_
          rotate_left
          · intro w hSw; go_simp <;> with_reducible rfl
          simp only [Act.put, List.setIfInBounds_toArray, List.set_cons_zero, List.set_cons_succ]
          refine held_take (v := ?_) 17 107 [true, true, true, true, true, true, true, true, true, true, true, true, true, true, true, true, false, true, false, false, false, false, false, false, false, false, false, false] rfl (by rfl) (by rfl) (by kernel_rfl) (by kernel_rfl) (by kernel_rfl) (by rfl) (fun _ _ _ h => h) ?_ hHeld ?_
          rotate_left
          · intro w hSw; go_simp <;> with_reducible rfl
          simp only [Act.put, List.setIfInBounds_toArray, List.set_cons_zero, List.set_cons_succ]
          refine held_call 16 106 [true, true, true, true, true, true, true, true, true, true, true, true, true, true, true, true, true, true, false, false, false, false, false, false, false, false, false, false] (by kernel_rfl) rfl (by rfl) (by rfl) (by rfl) (by go_simp) ((lacking_any v a m c L _ hv (HS.out.keep (Tz.out.keep hg hHeld).be) (by omega)).mono ?_)
          rintro e w8 ⟨x, rfl, hox, hb8⟩
          obtain ⟨xa, xc, rfl, _, _, hxs⟩ := Sl.own hox
          refine ⟨_, rfl, hHeld.trans (hb8.mono hHeld.size), fun hHeld => ?_⟩
          simp only [Act.put, List.setIfInBounds_toArray, List.set_cons_zero, List.set_cons_succ]
          have hHeld : Below wz.heap.size wz _ := hHeld
          refine held_call 18 108 [true, true, true, true, true, true, true, true, true, true, true, true, true, true, true, true, true, true, true, false, false, false, false, false, false, false, false, false] (by kernel_rfl) rfl (by rfl) (by rfl) (by rfl) (by go_simp) ((changes_same xa ya (lackN v L m) xc yc (lackTo v L m) _ hxs (hys.keep hHeld) (by have := lackN_le v L m; omega) (lackTo_fits HF.out m)).mono ?_)
          rintro e w9 ⟨rfl, hb9⟩
          refine ⟨_, rfl, hHeld.trans (hb9.mono hHeld.size), fun hHeld => ?_⟩
          simp only [Act.put, List.setIfInBounds_toArray, List.set_cons_zero, List.set_cons_succ]
          have hHeld : Below wz.heap.size wz _ := hHeld
          refine held_take (v := .bool true) 19 109 [true, true, true, true, true, true, true, true, true, true, true, true, true, true, true, true, true, true, true, true, false, false, false, false, false, false, false, false] rfl (by rfl) (by rfl) (by kernel_rfl) (by kernel_rfl) (by kernel_rfl) (by rfl) (fun _ _ _ h => h) (fun w h => by go_simp) hHeld ?_
          simp only [Act.put, List.setIfInBounds_toArray, List.set_cons_zero, List.set_cons_succ]
          refine held_take (v := ?_) 20 110 [true, true, true, true, true, true, true, true, true, true, true, true, true, true, true, true, true, true, true, true, true, false, false, false, false, false, false, false] rfl (by rfl) (by rfl) (by kernel_rfl) (by kernel_rfl) (by kernel_rfl) (by rfl) (fun _ _ _ h => h) ?_ hHeld ?_
          rotate_left
          · intro w hSw; go_simp <;> with_reducible rfl
          simp only [Act.put, List.setIfInBounds_toArray, List.set_cons_zero, List.set_cons_succ]
          refine held_take 21 111 [true, true, true, true, true, true, true, true, true, true, true, true, true, true, true, true, true, true, true, true, true, true, false, false, false, false, false, false] rfl (by rfl) (by rfl) (by kernel_rfl) (by kernel_rfl) (by kernel_rfl) (by rfl) (fun _ _ _ h => h) (fun w h => run_op_load rfl rfl ((Tz.out.keep hg h).va.vec hv) Try.underlying53 rfl (by rw [vec_size, ints_len, hv.out])) hHeld ?_
          simp only [Act.put, List.setIfInBounds_toArray, List.set_cons_zero, List.set_cons_succ]
          refine held_take (v := ?_) 22 112 [true, true, true, true, true, true, true, true, true, true, true, true, true, true, true, true, true, true, true, true, true, true, true, false, false, false, false, false] rfl (by rfl) (by rfl) (by kernel_rfl) (by kernel_rfl) (by kernel_rfl) (by rfl) (fun _ _ _ h => h) ?_ hHeld ?_
          rotate_left
          · intro w hSw; go_simp <;> with_reducible rfl
          simp only [Act.put, List.setIfInBounds_toArray, List.set_cons_zero, List.set_cons_succ]
          refine held_take 24 114 [true, true, true, true, true, true, true, true, true, true, true, true, true, true, true, true, true, true, true, true, true, true, true, false, true, false, false, false] rfl (by rfl) (by rfl) (by kernel_rfl) (by kernel_rfl) (by kernel_rfl) (by rfl) (fun _ _ _ h => h) (fun w h => run_op_load (cs := [.int .i64 0, .int .i64 0]) rfl rfl (NB.out.keep h NB.out.lt).two Try.underlying55 rfl id_size) hHeld ?_
          simp only [Act.put, List.setIfInBounds_toArray, List.set_cons_zero, List.set_cons_succ]
          refine held_call 23 113 [true, true, true, true, true, true, true, true, true, true, true, true, true, true, true, true, true, true, true, true, true, true, true, true, true, false, false, false] (by kernel_rfl) rfl (by rfl) (by rfl) (by rfl) (by go_simp) ((CN.out _).mono ?_)
          rintro e w10 ⟨rfl, hb10⟩
          refine ⟨_, rfl, hHeld.trans (hb10.mono hHeld.size), fun hHeld => ?_⟩
          simp only [Act.put, List.setIfInBounds_toArray, List.set_cons_zero, List.set_cons_succ]
          have hHeld : Below wz.heap.size wz _ := hHeld
          refine held_take 25 115 [true, true, true, true, true, true, true, true, true, true, true, true, true, true, true, true, true, true, true, true, true, true, true, true, true, true, false, false] rfl (by rfl) (by rfl) (by kernel_rfl) (by kernel_rfl) (by kernel_rfl) (by rfl) (fun _ _ _ h => h) (fun w h => run_op_cmp (xs := (ints [0, 0]).toArray) (ys := (ints [0, 0]).toArray) rfl rfl rfl (by kernel_rfl) (by rw [eql_flat 2 3 55 _ _ _ w flat_id (by kernel_rfl) (by kernel_rfl) (by kernel_rfl) (by decide) OKN OKN, sameB_refl])) hHeld ?_
          simp only [Act.put, List.setIfInBounds_toArray, List.set_cons_zero, List.set_cons_succ]
          refine held_take (v := .bool true) 26 116 [true, true, true, true, true, true, true, true, true, true, true, true, true, true, true, true, true, true, true, true, true, true, true, true, true, true, true, false] rfl (by rfl) (by rfl) (by kernel_rfl) (by kernel_rfl) (by kernel_rfl) (by rfl) (fun _ _ _ h => h) (fun w h => by go_simp) hHeld ?_
          simp only [Act.put, List.setIfInBounds_toArray, List.set_cons_zero, List.set_cons_succ]
          refine held_take (v := ?_) 27 8 [true, true, true, true, true, true, true, true, true, true, true, true, true, true, true, true, true, true, true, true, true, true, true, true, true, true, true, true] rfl (by rfl) (by rfl) (by kernel_rfl) (by kernel_rfl) (by kernel_rfl) (by rfl) (fun _ _ _ h => h) ?_ hHeld ?_
          rotate_left
          · intro w hSw; go_simp <;> with_reducible rfl
          simp only [Act.put, List.setIfInBounds_toArray, List.set_cons_zero, List.set_cons_succ]
          refine held_done (by kernel_rfl) ?_
          go_wp2_with fail
          go_ret
          exact ⟨rfl, Tz.out.be.trans (hHeld.mono (by have := Tz.out.sz; omega))⟩
      · obtain ⟨h0, h4⟩ := isRep_true hrep
        obtain ⟨k, rfl⟩ : ∃ k : Nat, r = k := ⟨r.toNat, by omega⟩
        have hk : k < 4 := by omega
        have c1 := T.out.va.vcell hv hk
        have hfk := HFV.out k
        obtain ⟨x, hx⟩ : ∃ x, v.getD k 0 = x := ⟨_, rfl⟩
        rw [hx] at c1 hfk
        obtain ⟨hxl, hxu⟩ := (fits_iff x).1 hfk
        have c2 : (wr.alloc (.cells #[.int .i64 0, .int .i64 0] 55)).cell? ⟨w.heap.size, k, none⟩ = some (.int .i64 x) := ((T.out.va.alloc _).vcell hv hk).trans (by rw [hx])
        by_cases h1 : x < 65535
        · have E1 := Lib.hid (show nextR v k = k by unfold nextR; rw [Int.toNat_natCast, hx, if_pos ⟨hrep, h1⟩])
          have E2 := Lib.hid (show nextS v k = x + 1 by unfold nextS; rw [Int.toNat_natCast, hx, if_pos ⟨hrep, h1⟩])
          clear hrep hx hfk
          go_upto_region 17 with fail
          have Tz := Lib.hid (T.out.keep hg ((Below.refl _ _).alloc (Nat.le_refl _) (.cells #[.int .i64 (k : Int), .int .i64 (x + 1)] 55)))
          have NB := Lib.hid (Blk.new wr #[.int .i64 (k : Int), .int .i64 (x + 1)] 55)
          generalize wr.alloc (.cells #[.int .i64 (k : Int), .int .i64 (x + 1)] 55) = wz at *
          have him2 : m = i := by omega
          subst him2
          have h4w : Hid ((ofTo L m).length = 4) := Lib.hid (ofTo_len L m)
          have OKW := okInts (ofTo L m) (ofTo_fits HF.out m)
          rw [ofTo_len] at OKW
          have OKN : OkAll (List.replicate 2 (some .i64)) (ints [(k : Int), (x + 1)]) := by
            have h1 := nextR_fits v k HFV.out
            have h2 := nextS_fits v k HFV.out
            rw [E1.out] at h1
            rw [E2.out] at h2
            exact okInts [(k : Int), (x + 1)] (by intro k; rcases k with _ | _ | k; exact h1; exact h2; rfl)
          have CN := Lib.hid (fun w => by have := next_any v k w hv HFV.out; rw [E1.out, E2.out] at this; exact this)
          obtain ⟨ya, yc, rfl, _, _, hys⟩ := Sl.own Tz.out.ow
          refine held_begin (fun w' => Below wz.heap.size wz w') 28 [false, false, false, false, false, false, false, false, false, false, false, false, false, false, false, false, false, false, false, false, false, false, false, false, false, false, false, false] (by kernel_rfl) rfl (by rfl) ?_
          have hHeld : Below wz.heap.size wz wz.drew := (Below.refl _ _).drew
          refine held_take (v := ?_) 0 90 [true, false, false, false, false, false, false, false, false, false, false, false, false, false, false, false, false, false, false, false, false, false, false, false, false, false, false, false] rfl (by rfl) (by rfl) (by kernel_rfl) (by kernel_rfl) (by kernel_rfl) (by rfl) (fun _ _ _ h => h) ?_ hHeld ?_
          rotate_left
          · intro w hSw; go_simp <;> with_reducible rfl
          simp only [Act.put, List.setIfInBounds_toArray, List.set_cons_zero, List.set_cons_succ]
          refine held_take 2 92 [true, false, true, false, false, false, false, false, false, false, false, false, false, false, false, false, false, false, false, false, false, false, false, false, false, false, false, false] rfl (by rfl) (by rfl) (by kernel_rfl) (by kernel_rfl) (by kernel_rfl) (by rfl) (fun _ _ _ h => h) (fun w h => run_op_load rfl rfl ((Tz.out.keep hg h).wa.vec h4w) Try.underlying53 rfl (by rw [vec_size, ints_len, h4w.out])) hHeld ?_
          simp only [Act.put, List.setIfInBounds_toArray, List.set_cons_zero, List.set_cons_succ]
          refine held_call 1 91 [true, true, true, false, false, false, false, false, false, false, false, false, false, false, false, false, false, false, false, false, false, false, false, false, false, false, false, false] (by kernel_rfl) rfl (by rfl) (by rfl) (by rfl) (by go_simp) ((of_any a m c L _ (HS.out.keep (Tz.out.keep hg hHeld).be) (by omega)).mono ?_)
          rintro e w5 ⟨rfl, hb5⟩
          refine ⟨_, rfl, hHeld.trans (hb5.mono hHeld.size), fun hHeld => ?_⟩
          simp only [Act.put, List.setIfInBounds_toArray, List.set_cons_zero, List.set_cons_succ]
          have hHeld : Below wz.heap.size wz _ := hHeld
          refine held_take 3 93 [true, true, true, true, false, false, false, false, false, false, false, false, false, false, false, false, false, false, false, false, false, false, false, false, false, false, false, false] rfl (by rfl) (by rfl) (by kernel_rfl) (by kernel_rfl) (by kernel_rfl) (by rfl) (fun _ _ _ h => h) (fun w h => run_op_cmp rfl rfl rfl (by kernel_rfl) (by rw [eql_flat 2 2 53 _ _ _ w flat_vec (by kernel_rfl) (by kernel_rfl) (by kernel_rfl) (by decide) OKW OKW, sameB_refl])) hHeld ?_
          simp only [Act.put, List.setIfInBounds_toArray, List.set_cons_zero, List.set_cons_succ]
          refine held_take (v := ?_) 4 94 [true, true, true, true, true, false, false, false, false, false, false, false, false, false, false, false, false, false, false, false, false, false, false, false, false, false, false, false] rfl (by rfl) (by rfl) (by kernel_rfl) (by kernel_rfl) (by kernel_rfl) (by rfl) (fun _ _ _ h => h) ?_ hHeld ?_
          rotate_left
          · intro w hSw; go_simp <;> with_reducible rfl
          simp only [Act.put, List.setIfInBounds_toArray, List.set_cons_zero, List.set_cons_succ]
          refine held_take 5 95 [true, true, true, true, true, true, false, false, false, false, false, false, false, false, false, false, false, false, false, false, false, false, false, false, false, false, false, false] rfl (by rfl) (by rfl) (by kernel_rfl) (by kernel_rfl) (by kernel_rfl) (by rfl) (fun _ _ _ h => h) (fun w h => run_op_load rfl rfl ((Tz.out.keep hg h).va.vec hv) Try.underlying53 rfl (by rw [vec_size, ints_len, hv.out])) hHeld ?_
          simp only [Act.put, List.setIfInBounds_toArray, List.set_cons_zero, List.set_cons_succ]
          refine held_take 6 96 [true, true, true, true, true, true, true, false, false, false, false, false, false, false, false, false, false, false, false, false, false, false, false, false, false, false, false, false] rfl (by rfl) (by rfl) (by kernel_rfl) (by kernel_rfl) (by kernel_rfl) (by rfl) (fun _ _ _ h => h) (fun w h => run_op_load (cs := [.int .i64 p, .int .i64 q]) rfl rfl (Tz.out.keep hg h).idr Try.underlying55 rfl id_size) hHeld ?_
          simp only [Act.put, List.setIfInBounds_toArray, List.set_cons_zero, List.set_cons_succ]
          refine held_take 8 98 [true, true, true, true, true, true, true, false, true, false, false, false, false, false, false, false, false, false, false, false, false, false, false, false, false, false, false, false] rfl (by rfl) (by rfl) (by kernel_rfl) (by kernel_rfl) (by kernel_rfl) (by rfl) (fun _ _ _ h => h) (fun w h => run_op_load rfl rfl ((Tz.out.keep hg h).va.vec hv) Try.underlying53 rfl (by rw [vec_size, ints_len, hv.out])) hHeld ?_
          simp only [Act.put, List.setIfInBounds_toArray, List.set_cons_zero, List.set_cons_succ]
          refine held_take 9 99 [true, true, true, true, true, true, true, false, true, true, false, false, false, false, false, false, false, false, false, false, false, false, false, false, false, false, false, false] rfl (by rfl) (by rfl) (by kernel_rfl) (by kernel_rfl) (by kernel_rfl) (by rfl) (fun _ _ _ h => h) (fun w h => run_op_load (cs := [.int .i64 p, .int .i64 q]) rfl rfl (Tz.out.keep hg h).idr Try.underlying55 rfl id_size) hHeld ?_
          simp only [Act.put, List.setIfInBounds_toArray, List.set_cons_zero, List.set_cons_succ]
          refine held_call 7 97 [true, true, true, true, true, true, true, true, true, true, false, false, false, false, false, false, false, false, false, false, false, false, false, false, false, false, false, false] (by kernel_rfl) rfl (by rfl) (by rfl) (by rfl) (by go_simp) ((has_any v p q _ hv).mono ?_)
          rintro e w6 ⟨rfl, hb6⟩
          refine ⟨_, rfl, hHeld.trans (hb6.mono hHeld.size), fun hHeld => ?_⟩
          simp only [Act.put, List.setIfInBounds_toArray, List.set_cons_zero, List.set_cons_succ]
          have hHeld : Below wz.heap.size wz _ := hHeld
          refine held_call 10 100 [true, true, true, true, true, true, true, true, true, true, true, false, false, false, false, false, false, false, false, false, false, false, false, false, false, false, false, false] (by kernel_rfl) rfl (by rfl) (by rfl) (by rfl) (by go_simp) ((has8_any v p q _ hv).mono ?_)
          rintro e w7 ⟨rfl, hb7⟩
          refine ⟨_, rfl, hHeld.trans (hb7.mono hHeld.size), fun hHeld => ?_⟩
          simp only [Act.put, List.setIfInBounds_toArray, List.set_cons_zero, List.set_cons_succ]
          have hHeld : Below wz.heap.size wz _ := hHeld
          refine held_take (v := .bool true) 11 101 [true, true, true, true, true, true, true, true, true, true, true, true, false, false, false, false, false, false, false, false, false, false, false, false, false, false, false, false] rfl (by rfl) (by rfl) (by kernel_rfl) (by kernel_rfl) (by kernel_rfl) (by rfl) (fun _ _ _ h => h) (fun w h => by cases known v p q <;> go_simp) hHeld ?_
          simp only [Act.put, List.setIfInBounds_toArray, List.set_cons_zero, List.set_cons_succ]
          refine held_take (v := .bool true) 12 102 [true, true, true, true, true, true, true, true, true, true, true, true, true, false, false, false, false, false, false, false, false, false, false, false, false, false, false, false] rfl (by rfl) (by rfl) (by kernel_rfl) (by kernel_rfl) (by kernel_rfl) (by rfl) (fun _ _ _ h => h) (fun w h => by go_simp) hHeld ?_
          simp only [Act.put, List.setIfInBounds_toArray, List.set_cons_zero, List.set_cons_succ]
          refine held_take (v := ?_) 13 103 [true, true, true, true, true, true, true, true, true, true, true, true, true, true, false, false, false, false, false, false, false, false, false, false, false, false, false, false] rfl (by rfl) (by rfl) (by kernel_rfl) (by kernel_rfl) (by kernel_rfl) (by rfl) (fun _ _ _ h => h) ?_ hHeld ?_
          rotate_left
          · intro w hSw; go_simp <;> with_reducible rfl
          simp only [Act.put, List.setIfInBounds_toArray, List.set_cons_zero, List.set_cons_succ]
          refine held_take 14 104 [true, true, true, true, true, true, true, true, true, true, true, true, true, true, true, false, false, false, false, false, false, false, false, false, false, false, false, false] rfl (by rfl) (by rfl) (by kernel_rfl) (by kernel_rfl) (by kernel_rfl) (by rfl) (fun _ _ _ h => h) (fun w h => run_op_load rfl rfl ((Tz.out.keep hg h).va.vec hv) Try.underlying53 rfl (by rw [vec_size, ints_len, hv.out])) hHeld ?_
          simp only [Act.put, List.setIfInBounds_toArray, List.set_cons_zero, List.set_cons_succ]
          refine held_take (v := ?_) 15 105 [true, true, true, true, true, true, true, true, true, true, true, true, true, true, true, true, false, false, false, false, false, false, false, false, false, false, false, false] rfl (by rfl) (by rfl) (by kernel_rfl) (by kernel_rfl) (by kernel_rfl) (by rfl) (fun _ _ _ h => h) ?_ hHeld ?_
          rotate_left
          · intro w hSw; go_simp <;> with_reducible rfl
          simp only [Act.put, List.setIfInBounds_toArray, List.set_cons_zero, List.set_cons_succ]
          refine held_take (v := ?_) 17 107 [true, true, true, true, true, true, true, true, true, true, true, true, true, true, true, true, false, true, false, false, false, false, false, false, false, false, false, false] rfl (by rfl) (by rfl) (by kernel_rfl) (by kernel_rfl) (by kernel_rfl) (by rfl) (fun _ _ _ h => h) ?_ hHeld ?_
          rotate_left
          · intro w hSw; go_simp <;> with_reducible rfl
          simp only [Act.put, List.setIfInBounds_toArray, List.set_cons_zero, List.set_cons_succ]
          refine held_call 16 106 [true, true, true, true, true, true, true, true, true, true, true, true, true, true, true, true, true, true, false, false, false, false, false, false, false, false, false, false] (by kernel_rfl) rfl (by rfl) (by rfl) (by rfl) (by go_simp) ((lacking_any v a m c L _ hv (HS.out.keep (Tz.out.keep hg hHeld).be) (by omega)).mono ?_)
          rintro e w8 ⟨x, rfl, hox, hb8⟩
          obtain ⟨xa, xc, rfl, _, _, hxs⟩ := Sl.own hox
          refine ⟨_, rfl, hHeld.trans (hb8.mono hHeld.size), fun hHeld => ?_⟩
          simp only [Act.put, List.setIfInBounds_toArray, List.set_cons_zero, List.set_cons_succ]
          have hHeld : Below wz.heap.size wz _ := hHeld
          refine held_call 18 108 [true, true, true, true, true, true, true, true, true, true, true, true, true, true, true, true, true, true, true, false, false, false, false, false, false, false, false, false] (by kernel_rfl) rfl (by rfl) (by rfl) (by rfl) (by go_simp) ((changes_same xa ya (lackN v L m) xc yc (lackTo v L m) _ hxs (hys.keep hHeld) (by have := lackN_le v L m; omega) (lackTo_fits HF.out m)).mono ?_)
          rintro e w9 ⟨rfl, hb9⟩
          refine ⟨_, rfl, hHeld.trans (hb9.mono hHeld.size), fun hHeld => ?_⟩
          simp only [Act.put, List.setIfInBounds_toArray, List.set_cons_zero, List.set_cons_succ]
          have hHeld : Below wz.heap.size wz _ := hHeld
          refine held_take (v := .bool true) 19 109 [true, true, true, true, true, true, true, true, true, true, true, true, true, true, true, true, true, true, true, true, false, false, false, false, false, false, false, false] rfl (by rfl) (by rfl) (by kernel_rfl) (by kernel_rfl) (by kernel_rfl) (by rfl) (fun _ _ _ h => h) (fun w h => by go_simp) hHeld ?_
          simp only [Act.put, List.setIfInBounds_toArray, List.set_cons_zero, List.set_cons_succ]
          refine held_take (v := ?_) 20 110 [true, true, true, true, true, true, true, true, true, true, true, true, true, true, true, true, true, true, true, true, true, false, false, false, false, false, false, false] rfl (by rfl) (by rfl) (by kernel_rfl) (by kernel_rfl) (by kernel_rfl) (by rfl) (fun _ _ _ h => h) ?_ hHeld ?_
          rotate_left
          · intro w hSw; go_simp <;> with_reducible rfl
          simp only [Act.put, List.setIfInBounds_toArray, List.set_cons_zero, List.set_cons_succ]
          refine held_take 21 111 [true, true, true, true, true, true, true, true, true, true, true, true, true, true, true, true, true, true, true, true, true, true, false, false, false, false, false, false] rfl (by rfl) (by rfl) (by kernel_rfl) (by kernel_rfl) (by kernel_rfl) (by rfl) (fun _ _ _ h => h) (fun w h => run_op_load rfl rfl ((Tz.out.keep hg h).va.vec hv) Try.underlying53 rfl (by rw [vec_size, ints_len, hv.out])) hHeld ?_
          simp only [Act.put, List.setIfInBounds_toArray, List.set_cons_zero, List.set_cons_succ]
          refine held_take (v := ?_) 22 112 [true, true, true, true, true, true, true, true, true, true, true, true, true, true, true, true, true, true, true, true, true, true, true, false, false, false, false, false] rfl (by rfl) (by rfl) (by kernel_rfl) (by kernel_rfl) (by kernel_rfl) (by rfl) (fun _ _ _ h => h) ?_ hHeld ?_
          rotate_left
          · intro w hSw; go_simp <;> with_reducible rfl
          simp only [Act.put, List.setIfInBounds_toArray, List.set_cons_zero, List.set_cons_succ]
          refine held_take 24 114 [true, true, true, true, true, true, true, true, true, true, true, true, true, true, true, true, true, true, true, true, true, true, true, false, true, false, false, false] rfl (by rfl) (by rfl) (by kernel_rfl) (by kernel_rfl) (by kernel_rfl) (by rfl) (fun _ _ _ h => h) (fun w h => run_op_load (cs := [.int .i64 (k : Int), .int .i64 (x + 1)]) rfl rfl (NB.out.keep h NB.out.lt).two Try.underlying55 rfl id_size) hHeld ?_
          simp only [Act.put, List.setIfInBounds_toArray, List.set_cons_zero, List.set_cons_succ]
          refine held_call 23 113 [true, true, true, true, true, true, true, true, true, true, true, true, true, true, true, true, true, true, true, true, true, true, true, true, true, false, false, false] (by kernel_rfl) rfl (by rfl) (by rfl) (by rfl) (by go_simp) ((CN.out _).mono ?_)
          rintro e w10 ⟨rfl, hb10⟩
          refine ⟨_, rfl, hHeld.trans (hb10.mono hHeld.size), fun hHeld => ?_⟩
          simp only [Act.put, List.setIfInBounds_toArray, List.set_cons_zero, List.set_cons_succ]
          have hHeld : Below wz.heap.size wz _ := hHeld
          refine held_take 25 115 [true, true, true, true, true, true, true, true, true, true, true, true, true, true, true, true, true, true, true, true, true, true, true, true, true, true, false, false] rfl (by rfl) (by rfl) (by kernel_rfl) (by kernel_rfl) (by kernel_rfl) (by rfl) (fun _ _ _ h => h) (fun w h => run_op_cmp (xs := (ints [(k : Int), (x + 1)]).toArray) (ys := (ints [(k : Int), (x + 1)]).toArray) rfl rfl rfl (by kernel_rfl) (by rw [eql_flat 2 3 55 _ _ _ w flat_id (by kernel_rfl) (by kernel_rfl) (by kernel_rfl) (by decide) OKN OKN, sameB_refl])) hHeld ?_
          simp only [Act.put, List.setIfInBounds_toArray, List.set_cons_zero, List.set_cons_succ]
          refine held_take (v := .bool true) 26 116 [true, true, true, true, true, true, true, true, true, true, true, true, true, true, true, true, true, true, true, true, true, true, true, true, true, true, true, false] rfl (by rfl) (by rfl) (by kernel_rfl) (by kernel_rfl) (by kernel_rfl) (by rfl) (fun _ _ _ h => h) (fun w h => by go_simp) hHeld ?_
          simp only [Act.put, List.setIfInBounds_toArray, List.set_cons_zero, List.set_cons_succ]
          refine held_take (v := ?_) 27 8 [true, true, true, true, true, true, true, true, true, true, true, true, true, true, true, true, true, true, true, true, true, true, true, true, true, true, true, true] rfl (by rfl) (by rfl) (by kernel_rfl) (by kernel_rfl) (by kernel_rfl) (by rfl) (fun _ _ _ h => h) ?_ hHeld ?_
          rotate_left
          · intro w hSw; go_simp <;> with_reducible rfl
          simp only [Act.put, List.setIfInBounds_toArray, List.set_cons_zero, List.set_cons_succ]
          refine held_done (by kernel_rfl) ?_
          go_wp2_with fail
          go_ret
          exact ⟨rfl, Tz.out.be.trans (hHeld.mono (by have := Tz.out.sz; omega))⟩
        · have E1 := Lib.hid (show nextR v k = 0 by unfold nextR; rw [Int.toNat_natCast, hx, if_neg (by omega)])
          have E2 := Lib.hid (show nextS v k = 0 by unfold nextS; rw [Int.toNat_natCast, hx, if_neg (by omega)])
          clear hrep hx hfk
          go_upto_region 17 with fail
          have Tz := Lib.hid (T.out.keep hg ((Below.refl _ _).alloc (Nat.le_refl _) (.cells #[.int .i64 0, .int .i64 0] 55)))
          have NB := Lib.hid (Blk.new wr #[.int .i64 0, .int .i64 0] 55)
          generalize wr.alloc (.cells #[.int .i64 0, .int .i64 0] 55) = wz at *
          have him2 : m = i := by omega
          subst him2
          have h4w : Hid ((ofTo L m).length = 4) := Lib.hid (ofTo_len L m)
          have OKW := okInts (ofTo L m) (ofTo_fits HF.out m)
          rw [ofTo_len] at OKW
          have OKN : OkAll (List.replicate 2 (some .i64)) (ints [0, 0]) := by
            have h1 := nextR_fits v k HFV.out
            have h2 := nextS_fits v k HFV.out
            rw [E1.out] at h1
            rw [E2.out] at h2
            exact okInts [0, 0] (by intro k; rcases k with _ | _ | k; exact h1; exact h2; rfl)
          have CN := Lib.hid (fun w => by have := next_any v k w hv HFV.out; rw [E1.out, E2.out] at this; exact this)
          obtain ⟨ya, yc, rfl, _, _, hys⟩ := Sl.own Tz.out.ow
          refine held_begin (fun w' => Below wz.heap.size wz w') 28 [false, false, false, false, false, false, false, false, false, false, false, false, false, false, false, false, false, false, false, false, false, false, false, false, false, false, false, false] (by kernel_rfl) rfl (by rfl) ?_
          have hHeld : Below wz.heap.size wz wz.drew := (Below.refl _ _).drew
          refine held_take (v := ?_) 0 90 [true, false, false, false, false, false, false, false, false, false, false, false, false, false, false, false, false, false, false, false, false, false, false, false, false, false, false, false] rfl (by rfl) (by rfl) (by kernel_rfl) (by kernel_rfl) (by kernel_rfl) (by rfl) (fun _ _ _ h => h) ?_ hHeld ?_
          rotate_left
          · intro w hSw; go_simp <;> with_reducible rfl
          simp only [Act.put, List.setIfInBounds_toArray, List.set_cons_zero, List.set_cons_succ]
          refine held_take 2 92 [true, false, true, false, false, false, false, false, false, false, false, false, false, false, false, false, false, false, false, false, false, false, false, false, false, false, false, false] rfl (by rfl) (by rfl) (by kernel_rfl) (by kernel_rfl) (by kernel_rfl) (by rfl) (fun _ _ _ h => h) (fun w h => run_op_load rfl rfl ((Tz.out.keep hg h).wa.vec h4w) Try.underlying53 rfl (by rw [vec_size, ints_len, h4w.out])) hHeld ?_
          simp only [Act.put, List.setIfInBounds_toArray, List.set_cons_zero, List.set_cons_succ]
          refine held_call 1 91 [true, true, true, false, false, false, false, false, false, false, false, false, false, false, false, false, false, false, false, false, false, false, false, false, false, false, false, false] (by kernel_rfl) rfl (by rfl) (by rfl) (by rfl) (by go_simp) ((of_any a m c L _ (HS.out.keep (Tz.out.keep hg hHeld).be) (by omega)).mono ?_)
          rintro e w5 ⟨rfl, hb5⟩
          refine ⟨_, rfl, hHeld.trans (hb5.mono hHeld.size), fun hHeld => ?_⟩
          simp only [Act.put, List.setIfInBounds_toArray, List.set_cons_zero, List.set_cons_succ]
          have hHeld : Below wz.heap.size wz _ := hHeld
          refine held_take 3 93 [true, true, true, true, false, false, false, false, false, false, false, false, false, false, false, false, false, false, false, false, false, false, false, false, false, false, false, false] rfl (by rfl) (by rfl) (by kernel_rfl) (by kernel_rfl) (by kernel_rfl) (by rfl) (fun _ _ _ h => h) (fun w h => run_op_cmp rfl rfl rfl (by kernel_rfl) (by rw [eql_flat 2 2 53 _ _ _ w flat_vec (by kernel_rfl) (by kernel_rfl) (by kernel_rfl) (by decide) OKW OKW, sameB_refl])) hHeld ?_
          simp only [Act.put, List.setIfInBounds_toArray, List.set_cons_zero, List.set_cons_succ]
          refine held_take (v := ?_) 4 94 [true, true, true, true, true, false, false, false, false, false, false, false, false, false, false, false, false, false, false, false, false, false, false, false, false, false, false, false] rfl (by rfl) (by rfl) (by kernel_rfl) (by kernel_rfl) (by kernel_rfl) (by rfl) (fun _ _ _ h => h) ?_ hHeld ?_
          rotate_left
          · intro w hSw; go_simp <;> with_reducible rfl
          simp only [Act.put, List.setIfInBounds_toArray, List.set_cons_zero, List.set_cons_succ]
          refine held_take 5 95 [true, true, true, true, true, true, false, false, false, false, false, false, false, false, false, false, false, false, false, false, false, false, false, false, false, false, false, false] rfl (by rfl) (by rfl) (by kernel_rfl) (by kernel_rfl) (by kernel_rfl) (by rfl) (fun _ _ _ h => h) (fun w h => run_op_load rfl rfl ((Tz.out.keep hg h).va.vec hv) Try.underlying53 rfl (by rw [vec_size, ints_len, hv.out])) hHeld ?_
          simp only [Act.put, List.setIfInBounds_toArray, List.set_cons_zero, List.set_cons_succ]
          refine held_take 6 96 [true, true, true, true, true, true, true, false, false, false, false, false, false, false, false, false, false, false, false, false, false, false, false, false, false, false, false, false] rfl (by rfl) (by rfl) (by kernel_rfl) (by kernel_rfl) (by kernel_rfl) (by rfl) (fun _ _ _ h => h) (fun w h => run_op_load (cs := [.int .i64 p, .int .i64 q]) rfl rfl (Tz.out.keep hg h).idr Try.underlying55 rfl id_size) hHeld ?_
          simp only [Act.put, List.setIfInBounds_toArray, List.set_cons_zero, List.set_cons_succ]
          refine held_take 8 98 [true, true, true, true, true, true, true, false, true, false, false, false, false, false, false, false, false, false, false, false, false, false, false, false, false, false, false, false] rfl (by rfl) (by rfl) (by kernel_rfl) (by kernel_rfl) (by kernel_rfl) (by rfl) (fun _ _ _ h => h) (fun w h => run_op_load rfl rfl ((Tz.out.keep hg h).va.vec hv) Try.underlying53 rfl (by rw [vec_size, ints_len, hv.out])) hHeld ?_
          simp only [Act.put, List.setIfInBounds_toArray, List.set_cons_zero, List.set_cons_succ]
          refine held_take 9 99 [true, true, true, true, true, true, true, false, true, true, false, false, false, false, false, false, false, false, false, false, false, false, false, false, false, false, false, false] rfl (by rfl) (by rfl) (by kernel_rfl) (by kernel_rfl) (by kernel_rfl) (by rfl) (fun _ _ _ h => h) (fun w h => run_op_load (cs := [.int .i64 p, .int .i64 q]) rfl rfl (Tz.out.keep hg h).idr Try.underlying55 rfl id_size) hHeld ?_
          simp only [Act.put, List.setIfInBounds_toArray, List.set_cons_zero, List.set_cons_succ]
          refine held_call 7 97 [true, true, true, true, true, true, true, true, true, true, false, false, false, false, false, false, false, false, false, false, false, false, false, false, false, false, false, false] (by kernel_rfl) rfl (by rfl) (by rfl) (by rfl) (by go_simp) ((has_any v p q _ hv).mono ?_)
          rintro e w6 ⟨rfl, hb6⟩
          refine ⟨_, rfl, hHeld.trans (hb6.mono hHeld.size), fun hHeld => ?_⟩
          simp only [Act.put, List.setIfInBounds_toArray, List.set_cons_zero, List.set_cons_succ]
          have hHeld : Below wz.heap.size wz _ := hHeld
          refine held_call 10 100 [true, true, true, true, true, true, true, true, true, true, true, false, false, false, false, false, false, false, false, false, false, false, false, false, false, false, false, false] (by kernel_rfl) rfl (by rfl) (by rfl) (by rfl) (by go_simp) ((has8_any v p q _ hv).mono ?_)
          rintro e w7 ⟨rfl, hb7⟩
          refine ⟨_, rfl, hHeld.trans (hb7.mono hHeld.size), fun hHeld => ?_⟩
          simp only [Act.put, List.setIfInBounds_toArray, List.set_cons_zero, List.set_cons_succ]
          have hHeld : Below wz.heap.size wz _ := hHeld
          refine held_take (v := .bool true) 11 101 [true, true, true, true, true, true, true, true, true, true, true, true, false, false, false, false, false, false, false, false, false, false, false, false, false, false, false, false] rfl (by rfl) (by rfl) (by kernel_rfl) (by kernel_rfl) (by kernel_rfl) (by rfl) (fun _ _ _ h => h) (fun w h => by cases known v p q <;> go_simp) hHeld ?_
          simp only [Act.put, List.setIfInBounds_toArray, List.set_cons_zero, List.set_cons_succ]
          refine held_take (v := .bool true) 12 102 [true, true, true, true, true, true, true, true, true, true, true, true, true, false, false, false, false, false, false, false, false, false, false, false, false, false, false, false] rfl (by rfl) (by rfl) (by kernel_rfl) (by kernel_rfl) (by kernel_rfl) (by rfl) (fun _ _ _ h => h) (fun w h => by go_simp) hHeld ?_
          simp only [Act.put, List.setIfInBounds_toArray, List.set_cons_zero, List.set_cons_succ]
          refine held_take (v := ?_) 13 103 [true, true, true, true, true, true, true, true, true, true, true, true, true, true, false, false, false, false, false, false, false, false, false, false, false, false, false, false] rfl (by rfl) (by rfl) (by kernel_rfl) (by kernel_rfl) (by kernel_rfl) (by rfl) (fun _ _ _ h => h) ?_ hHeld ?_
          rotate_left
          · intro w hSw; go_simp <;> with_reducible rfl
          simp only [Act.put, List.setIfInBounds_toArray, List.set_cons_zero, List.set_cons_succ]
          refine held_take 14 104 [true, true, true, true, true, true, true, true, true, true, true, true, true, true, true, false, false, false, false, false, false, false, false, false, false, false, false, false] rfl (by rfl) (by rfl) (by kernel_rfl) (by kernel_rfl) (by kernel_rfl) (by rfl) (fun _ _ _ h => h) (fun w h => run_op_load rfl rfl ((Tz.out.keep hg h).va.vec hv) Try.underlying53 rfl (by rw [vec_size, ints_len, hv.out])) hHeld ?_
          simp only [Act.put, List.setIfInBounds_toArray, List.set_cons_zero, List.set_cons_succ]
          refine held_take (v := ?_) 15 105 [true, true, true, true, true, true, true, true, true, true, true, true, true, true, true, true, false, false, false, false, false, false, false, false, false, false, false, false] rfl (by rfl) (by rfl) (by kernel_rfl) (by kernel_rfl) (by kernel_rfl) (by rfl) (fun _ _ _ h => h) ?_ hHeld ?_
          rotate_left
          · intro w hSw; go_simp <;> with_reducible rfl
          simp only [Act.put, List.setIfInBounds_toArray, List.set_cons_zero, List.set_cons_succ]
          refine held_take (v := ?_) 17 107 [true, true, true, true, true, true, true, true, true, true, true, true, true, true, true, true, false, true, false, false, false, false, false, false, false, false, false, false] rfl (by rfl) (by rfl) (by kernel_rfl) (by kernel_rfl) (by kernel_rfl) (by rfl) (fun _ _ _ h => h) ?_ hHeld ?_
          rotate_left
          · intro w hSw; go_simp <;> with_reducible rfl
          simp only [Act.put, List.setIfInBounds_toArray, List.set_cons_zero, List.set_cons_succ]
          refine held_call 16 106 [true, true, true, true, true, true, true, true, true, true, true, true, true, true, true, true, true, true, false, false, false, false, false, false, false, false, false, false] (by kernel_rfl) rfl (by rfl) (by rfl) (by rfl) (by go_simp) ((lacking_any v a m c L _ hv (HS.out.keep (Tz.out.keep hg hHeld).be) (by omega)).mono ?_)
          rintro e w8 ⟨x, rfl, hox, hb8⟩
          obtain ⟨xa, xc, rfl, _, _, hxs⟩ := Sl.own hox
          refine ⟨_, rfl, hHeld.trans (hb8.mono hHeld.size), fun hHeld => ?_⟩
          simp only [Act.put, List.setIfInBounds_toArray, List.set_cons_zero, List.set_cons_succ]
          have hHeld : Below wz.heap.size wz _ := hHeld
          refine held_call 18 108 [true, true, true, true, true, true, true, true, true, true, true, true, true, true, true, true, true, true, true, false, false, false, false, false, false, false, false, false] (by kernel_rfl) rfl (by rfl) (by rfl) (by rfl) (by go_simp) ((changes_same xa ya (lackN v L m) xc yc (lackTo v L m) _ hxs (hys.keep hHeld) (by have := lackN_le v L m; omega) (lackTo_fits HF.out m)).mono ?_)
          rintro e w9 ⟨rfl, hb9⟩
          refine ⟨_, rfl, hHeld.trans (hb9.mono hHeld.size), fun hHeld => ?_⟩
          simp only [Act.put, List.setIfInBounds_toArray, List.set_cons_zero, List.set_cons_succ]
          have hHeld : Below wz.heap.size wz _ := hHeld
          refine held_take (v := .bool true) 19 109 [true, true, true, true, true, true, true, true, true, true, true, true, true, true, true, true, true, true, true, true, false, false, false, false, false, false, false, false] rfl (by rfl) (by rfl) (by kernel_rfl) (by kernel_rfl) (by kernel_rfl) (by rfl) (fun _ _ _ h => h) (fun w h => by go_simp) hHeld ?_
          simp only [Act.put, List.setIfInBounds_toArray, List.set_cons_zero, List.set_cons_succ]
          refine held_take (v := ?_) 20 110 [true, true, true, true, true, true, true, true, true, true, true, true, true, true, true, true, true, true, true, true, true, false, false, false, false, false, false, false] rfl (by rfl) (by rfl) (by kernel_rfl) (by kernel_rfl) (by kernel_rfl) (by rfl) (fun _ _ _ h => h) ?_ hHeld ?_
          rotate_left
          · intro w hSw; go_simp <;> with_reducible rfl
          simp only [Act.put, List.setIfInBounds_toArray, List.set_cons_zero, List.set_cons_succ]
          refine held_take 21 111 [true, true, true, true, true, true, true, true, true, true, true, true, true, true, true, true, true, true, true, true, true, true, false, false, false, false, false, false] rfl (by rfl) (by rfl) (by kernel_rfl) (by kernel_rfl) (by kernel_rfl) (by rfl) (fun _ _ _ h => h) (fun w h => run_op_load rfl rfl ((Tz.out.keep hg h).va.vec hv) Try.underlying53 rfl (by rw [vec_size, ints_len, hv.out])) hHeld ?_
          simp only [Act.put, List.setIfInBounds_toArray, List.set_cons_zero, List.set_cons_succ]
          refine held_take (v := ?_) 22 112 [true, true, true, true, true, true, true, true, true, true, true, true, true, true, true, true, true, true, true, true, true, true, true, false, false, false, false, false] rfl (by rfl) (by rfl) (by kernel_rfl) (by kernel_rfl) (by kernel_rfl) (by rfl) (fun _ _ _ h => h) ?_ hHeld ?_
          rotate_left
          · intro w hSw; go_simp <;> with_reducible rfl
          simp only [Act.put, List.setIfInBounds_toArray, List.set_cons_zero, List.set_cons_succ]
          refine held_take 24 114 [true, true, true, true, true, true, true, true, true, true, true, true, true, true, true, true, true, true, true, true, true, true, true, false, true, false, false, false] rfl (by rfl) (by rfl) (by kernel_rfl) (by kernel_rfl) (by kernel_rfl) (by rfl) (fun _ _ _ h => h) (fun w h => run_op_load (cs := [.int .i64 0, .int .i64 0]) rfl rfl (NB.out.keep h NB.out.lt).two Try.underlying55 rfl id_size) hHeld ?_
          simp only [Act.put, List.setIfInBounds_toArray, List.set_cons_zero, List.set_cons_succ]
          refine held_call 23 113 [true, true, true, true, true, true, true, true, true, true, true, true, true, true, true, true, true, true, true, true, true, true, true, true, true, false, false, false] (by kernel_rfl) rfl (by rfl) (by rfl) (by rfl) (by go_simp) ((CN.out _).mono ?_)
          rintro e w10 ⟨rfl, hb10⟩
          refine ⟨_, rfl, hHeld.trans (hb10.mono hHeld.size), fun hHeld => ?_⟩
          simp only [Act.put, List.setIfInBounds_toArray, List.set_cons_zero, List.set_cons_succ]
          have hHeld : Below wz.heap.size wz _ := hHeld
          refine held_take 25 115 [true, true, true, true, true, true, true, true, true, true, true, true, true, true, true, true, true, true, true, true, true, true, true, true, true, true, false, false] rfl (by rfl) (by rfl) (by kernel_rfl) (by kernel_rfl) (by kernel_rfl) (by rfl) (fun _ _ _ h => h) (fun w h => run_op_cmp (xs := (ints [0, 0]).toArray) (ys := (ints [0, 0]).toArray) rfl rfl rfl (by kernel_rfl) (by rw [eql_flat 2 3 55 _ _ _ w flat_id (by kernel_rfl) (by kernel_rfl) (by kernel_rfl) (by decide) OKN OKN, sameB_refl])) hHeld ?_
          simp only [Act.put, List.setIfInBounds_toArray, List.set_cons_zero, List.set_cons_succ]
          refine held_take (v := .bool true) 26 116 [true, true, true, true, true, true, true, true, true, true, true, true, true, true, true, true, true, true, true, true, true, true, true, true, true, true, true, false] rfl (by rfl) (by rfl) (by kernel_rfl) (by kernel_rfl) (by kernel_rfl) (by rfl) (fun _ _ _ h => h) (fun w h => by go_simp) hHeld ?_
          simp only [Act.put, List.setIfInBounds_toArray, List.set_cons_zero, List.set_cons_succ]
          refine held_take (v := ?_) 27 8 [true, true, true, true, true, true, true, true, true, true, true, true, true, true, true, true, true, true, true, true, true, true, true, true, true, true, true, true] rfl (by rfl) (by rfl) (by kernel_rfl) (by kernel_rfl) (by kernel_rfl) (by rfl) (fun _ _ _ h => h) ?_ hHeld ?_
          rotate_left
          · intro w hSw; go_simp <;> with_reducible rfl
          simp only [Act.put, List.setIfInBounds_toArray, List.set_cons_zero, List.set_cons_succ]
          refine held_done (by kernel_rfl) ?_
          go_wp2_with fail
          go_ret
          exact ⟨rfl, Tz.out.be.trans (hHeld.mono (by have := Tz.out.sz; omega))⟩
end Go.Proofs.Ytmgjbgingjiimaa
