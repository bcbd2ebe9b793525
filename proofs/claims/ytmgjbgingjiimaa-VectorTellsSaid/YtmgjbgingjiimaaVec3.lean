/- What is lacking. -/
import Derived.Test.YtmgjbgingjiimaaVec2
import Derived.Great.BuildSlice
namespace Go.Proofs.Ytmgjbgingjiimaa
set_option linter.unusedVariables false
set_option linter.unusedSimpArgs false
open Go.ChangeShapes Go.WideShapes Go.ChangeAt Go.RowKit
/-- a slice of one whole element. -/
theorem bs_one {P : Program} {t e d sz : Nat} {x : Operand} {ty : TypeId} {ps : String} {af : Array Edge} {a : Act} {w : World} {ops : Array Oper} {rest : List Oper} {Q : Exit → Act → World → Prop} {cs : List Value}
    (hu : P.underlying t = some (.slice e)) (hi : (P.info? e).map (fun i => (i.zero.isSome, i.size)) = some (true, sz)) (hpos : 0 < sz) (hsm : sz ≤ 16777216)
    (hx : a.eval x = .agg cs.toArray) (hl : Hid (cs.length = sz)) (h : wpList P ops Q rest (a.put (some d) (.slice (some ⟨w.heap.size, 0, none⟩) 1 1)) (w.alloc (.cells cs.toArray e))) :
    wpList P ops Q (⟨some d, .buildSlice t 1 #[(0, x)], ty, ps, af, none⟩ :: rest) a w := by
  cases hie : P.info? e with
  | none => rw [hie] at hi; cases hi
  | some ie =>
    rw [hie] at hi
    simp only [Option.map_some, Option.some.injEq, Prod.mk.injEq] at hi
    obtain ⟨z, hz⟩ := Option.isSome_iff_exists.1 hi.1
    refine wpList_buildSlice rfl t e 1 #[(0, x)] rfl cs.toArray ie z hu hie hz (by rw [hi.2]; omega) (by rw [hi.2]; omega) ?_ h
    have := Great.fill_whole hpos [.agg cs.toArray] ((Array.range (1 * sz)).map (z.cells[· % z.cells.size]!)) (by intro v hv; rw [List.mem_singleton] at hv; subst hv; simpa [Value.cells] using hl.out) (by simp)
    rw [hi.2]
    simpa [hx, Value.cells] using this
theorem chg_whole : (Try.prog.info? 58).map (fun i => (i.zero.isSome, i.size)) = some (true, 9) := by kernel_rfl
theorem chg_info : (Try.prog.info? 58).map (fun i => (i.zero, i.size, i.bytes)) = some (some (.agg #[.int .i64 0, .int .i64 0, .int .i64 0, .int .i64 0, .int .i64 0, .int .i64 0, .int .i64 0, .int .i64 0, .int .i64 0]), 9, 72) := by kernel_rfl
theorem Blk.chg {w : World} {g t : Nat} {x : List Int} (h : Blk w g (ints x) t) (hv : Hid (x.length = 9)) : w.rangeAt g 0 (ints x) := h.range 0 _ (by simp)
theorem known_is {v : List Int} {r s : Int} {b : Bool} (hv : Hid (v.length = 4)) (h : known v r s = b) (w : World) : Calls Try.prog 34 #[.agg (ints v).toArray, .agg #[.int .i64 r, .int .i64 s]] w fun e w' => e = .returned (.bool b) ∧ Below w.heap.size w w' := by
  have := has_any v r s w hv
  rwa [h] at this
theorem own_kept {w w2 : World} {B : Nat} {e : TypeId} {sz : Nat} {v : Value} {n : Nat} {xs : List Value} (h : w.ownsRow B e sz v n xs) (hb : Below w.heap.size w w2) : w2.ownsRow B e sz v n xs := by
  refine ⟨h.1, h.2.imp id ?_⟩
  rintro ⟨g, cap, cur, h1, h2, h3, h4⟩
  have hlt : g < w.heap.size := by
    rcases Nat.lt_or_ge g w.heap.size with hl | hl
    · exact hl
    · rw [Array.getElem?_eq_none hl] at h3; cases h3
  exact ⟨g, cap, cur, h1, h2, by rw [hb.block g hlt]; exact h3, h4⟩
theorem ints_app (l m : List Int) : ints (l ++ m) = ints l ++ ints m := by simp [ints]
/-- what v lacks of the first k changes. -/
def lackTo (v L : List Int) : Nat → List Int
  | 0 => []
  | k + 1 => if known v (L.getD (k * 9) 0) (L.getD (k * 9 + 1) 0) then lackTo v L k else lackTo v L k ++ chAt L k
def lackN (v L : List Int) : Nat → Nat
  | 0 => 0
  | k + 1 => if known v (L.getD (k * 9) 0) (L.getD (k * 9 + 1) 0) then lackN v L k else lackN v L k + 1
theorem lackTo_yes {v L : List Int} {k : Nat} (h : known v (L.getD (k * 9) 0) (L.getD (k * 9 + 1) 0) = true) : lackTo v L (k + 1) = lackTo v L k ∧ lackN v L (k + 1) = lackN v L k := by
  rw [lackTo, lackN, if_pos h, if_pos h]; exact ⟨rfl, rfl⟩
theorem lackTo_no {v L : List Int} {k : Nat} (h : known v (L.getD (k * 9) 0) (L.getD (k * 9 + 1) 0) = false) : lackTo v L (k + 1) = lackTo v L k ++ chAt L k ∧ lackN v L (k + 1) = lackN v L k + 1 := by
  rw [lackTo, lackN, if_neg (by rw [h]; simp), if_neg (by rw [h]; simp)]; exact ⟨rfl, rfl⟩
theorem lackN_le (v L : List Int) : ∀ k, lackN v L k ≤ k
  | 0 => Nat.le_refl _
  | k + 1 => by
    have := lackN_le v L k
    unfold lackN
    split <;> omega
set_option maxHeartbeats 2000000 in
theorem lacking_any (v : List Int) (a : Option Addr) (n c : Nat) (L : List Int) (w : World) (hv : Hid (v.length = 4)) (hs : Sl w a n 9 (ints L)) (hn : n ≤ 1000) :
    Calls Try.prog 36 #[.agg (ints v).toArray, .slice a n c] w fun e w' => ∃ x, e = .returned x ∧ w'.ownsRow w.heap.size 58 9 x (lackN v L n) (ints (lackTo v L n)) ∧ Below w.heap.size w w' := by
  obtain ⟨i0, hi, hz0, hz1, hz2⟩ := info_parts chg_info
  have A1 := Blk.new w (ints v).toArray 53
  rw [List.toList_toArray] at A1
  have hb1 := Lib.hid ((Below.refl w.heap.size w).alloc (Nat.le_refl _) (.cells (ints v).toArray 53))
  have hsz1 : (w.alloc (.cells (ints v).toArray 53)).heap.size = w.heap.size + 1 := by simp
  have hl : Hid (L.length = n * 9) := Lib.hid (by have := hs.1; rwa [ints_len] at this)
  have HS := Lib.hid hs
  clear hs
  go_enter Try.func36, Try.ntmps36
  go_wp2_with fail
  generalize w.alloc (.cells (ints v).toArray 53) = W at *
  have HA := Lib.hid A1
  have HZ := Lib.hid hsz1
  clear A1 hsz1
  go_loopg [5, 10] n (fun q s5 s10 wr => ∃ i : Nat, q + i = n ∧ s10 = .int .i64 i ∧ Hid (Blk wr w.heap.size (ints v) 53 ∧ wr.ownsRow (w.heap.size + 1) 58 9 s5 (lackN v L i) (ints (lackTo v L i)) ∧ w.heap.size + 1 ≤ wr.heap.size ∧ Below w.heap.size w wr))
  case atStart => exact ⟨0, rfl, rfl, Lib.hid ⟨HA.out, World.ownsRow_nil _ _ _ _, Nat.le_of_eq HZ.out.symm, hb1.out⟩⟩
  case round =>
    obtain ⟨i, hqi, rfl, hbr⟩ := hrel
    by_cases hin0 : i < n
    · obtain ⟨b, off, rfl, hb, hr⟩ := chAt_at HS.out hin0
      have h9 : Hid ((chAt L i).length = 9) := Lib.hid (chAt_len hl.out hin0)
      have h9c : Hid ((ints (chAt L i)).length = 9) := Lib.hid (by rw [ints_len]; exact h9.out)
      have hr1 := range_keep hr hbr.out.2.2.2 hb
      clear hr
      have hi0 : (0 : Int) ≤ i := by omega
      have hin : (i : Int) < n := by omega
      have D := Blk.new wr (ints (chAt L i)).toArray 58
      rw [List.toList_toArray] at D
      have d0 := (D.cell 0).trans (ints_get _ 0 (by rw [h9.out]; decide))
      have d1 := (D.cell 1).trans (ints_get _ 1 (by rw [h9.out]; decide))
      rw [chAt_get (by decide)] at d0 d1
      have d0' : (wr.alloc (.cells (ints (chAt L i)).toArray 58)).cell? ⟨wr.heap.size, 0, none⟩ = some (.int .i64 (L.getD (i * 9) 0)) := d0
      obtain ⟨r, hrr⟩ : ∃ r, L.getD (i * 9) 0 = r := ⟨_, rfl⟩
      obtain ⟨s, hss⟩ : ∃ s, L.getD (i * 9 + 1) 0 = s := ⟨_, rfl⟩
      rw [hrr] at d0'
      rw [hss] at d1
      have A2 := (hbr.out.1.alloc (.cells (ints (chAt L i)).toArray 58)).vec hv
      have O2 := Lib.hid (hbr.out.2.1.alloc (.cells (ints (chAt L i)).toArray 58))
      have HK2 := Lib.hid (hbr.out.1.alloc (.cells (ints (chAt L i)).toArray 58))
      have hz2' := hbr.out.2.2.1
      have HB2 := Lib.hid (hbr.out.2.2.2.alloc (Nat.le_trans (Nat.le_add_right _ 1) hz2') (.cells (ints (chAt L i)).toArray 58))
      have hz3 : w.heap.size + 1 ≤ (wr.alloc (.cells (ints (chAt L i)).toArray 58)).heap.size := by simp; omega
      have HD := Lib.hid D
      have HDl := D.lt
      have HRR := Lib.hid hrr
      have HSS := Lib.hid hss
      clear D d0 hrr hss
      go_upto_region 5 with (first
    | ((with_reducible apply chg_load); (· rfl); (· (first | assumption)); (· assumption); (simp only [Act.put, List.setIfInBounds_toArray, List.set_cons_zero, List.set_cons_succ]))
    | ((with_reducible apply chg_store_new); (· rfl); (· first | rfl | simp); (· rfl); (· rfl); (· assumption); (simp only [Act.put, List.setIfInBounds_toArray, List.set_cons_zero, List.set_cons_succ])))
      generalize wr.alloc (.cells (ints (chAt L i)).toArray 58) = W2 at *
      rcases hrb : known v r s with _ | _
      · have C := Lib.hid (fun w => known_is hv hrb w)
        have E := Lib.hid (lackTo_no (v := v) (L := L) (k := i) (by rw [HRR.out, HSS.out]; exact hrb))
        clear hrb
        go_wp2_with (first
    | ((with_reducible apply vec_load); (· rfl); (· (first | assumption | exact Blk.vec (by assumption) (by assumption))); (· assumption); (simp only [Act.put, List.setIfInBounds_toArray, List.set_cons_zero, List.set_cons_succ])))
        refine (C.out _).mono ?_
        rintro e w3 ⟨rfl, hb3⟩
        have HK3 := Lib.hid (HK2.out.keep hb3 HK2.out.lt)
        have O3 := Lib.hid (own_kept O2.out hb3)
        have D3 := HD.out.keep hb3 HDl
        have D3r := D3.chg h9
        have hz4 : w.heap.size + 1 ≤ w3.heap.size := by have := hb3.size; omega
        have HB3 := Lib.hid (HB2.out.trans (hb3.mono HB2.out.size))
        have HK4 := Lib.hid (HK3.out.alloc (.cells (ints (chAt L i)).toArray 58))
        have O4 := Lib.hid (own_kept O3.out ((Below.refl _ _).alloc (Nat.le_refl _) (.cells (ints (chAt L i)).toArray 58)))
        have HB4 := Lib.hid (HB3.out.alloc (Nat.le_trans (Nat.le_add_right _ 1) hz4) (.cells (ints (chAt L i)).toArray 58))
        have S4 : ∀ j u, (ints (chAt L i))[j]? = some u → (w3.alloc (.cells (ints (chAt L i)).toArray 58)).cell? (Addr.add ⟨w3.heap.size, 0, none⟩ j) = some u := fun j u hu => by
          rw [add_plain]
          rw [Nat.zero_add, cell_of_row _ _ j _ _ _ (heap_alloc_new _ _)]
          simpa using hu
        have hz5 : w.heap.size + 1 ≤ (w3.alloc (.cells (ints (chAt L i)).toArray 58)).heap.size := by simp; omega
        have S5 := Lib.hid S4
        have hk1 := lackN_le v L i
        clear hb3 HK2 O2 HD d0' d1 A2 hr1 hbr HB2 S4
        go_wp2_with (first
    | ((with_reducible apply chg_load); (· rfl); (· (first | assumption)); (· assumption); (simp only [Act.put, List.setIfInBounds_toArray, List.set_cons_zero, List.set_cons_succ]))
    | ((with_reducible apply bs_one Try.underlying52 chg_whole (by decide) (by decide)); (· rfl); (· first | assumption); (simp only [Act.put, List.setIfInBounds_toArray, List.set_cons_zero, List.set_cons_succ]))
    | (at_builtin; refine wpList_append_own _ rfl _ _ 52 rfl (w.heap.size + 1) 58 i0 (.agg #[.int .i64 0, .int .i64 0, .int .i64 0, .int .i64 0, .int .i64 0, .int .i64 0, .int .i64 0, .int .i64 0, .int .i64 0]) 9 72 Try.underlying52 hi hz0 hz1 hz2 rfl (by decide) _ _ _ rfl O4.out ⟨w3.heap.size, 0, none⟩ 1 1 (ints (chAt L i)) rfl (by rw [ints_len, h9.out]) S5.out (fun u hu => ints_one hu) ?c1 ?c2 ?c3 ?_))
        case c1 => simp only [maxLen]; omega
        case c2 => omega
        case c3 => exact hz5
        intro v' w5 hown hgr hnil
        have G1 := Below.grown (B := w.heap.size + 1) (Below.refl (w.heap.size + 1) _) hgr hz5 fun g hg => (O4.out.lt g hg).1
        have G2 := Below.grown HB4.out hgr (by omega) fun g hg => Nat.le_trans (Nat.le_add_right _ 1) (O4.out.lt g hg).1
        have hz6 : w.heap.size + 1 ≤ w5.heap.size := Nat.le_trans hz5 G1.size
        rw [← ints_app] at hown
        have R5 := Lib.hid (And.intro (HK4.out.keep G1 (Nat.lt_succ_self _)) (And.intro hown (And.intro hz6 G2)))
        clear hown hgr hnil G1 G2 hz6
        go_wp2_with fail
        go_roundg (gk - 1)
        case measure => omega
        case rel => exact ⟨i + 1, by omega, by go_num, by rw [E.out.1, E.out.2]; exact R5⟩
      · have C := Lib.hid (fun w => known_is hv hrb w)
        have E := Lib.hid (lackTo_yes (v := v) (L := L) (k := i) (by rw [HRR.out, HSS.out]; exact hrb))
        clear hrb
        go_wp2_with (first
    | ((with_reducible apply vec_load); (· rfl); (· (first | assumption | exact Blk.vec (by assumption) (by assumption))); (· assumption); (simp only [Act.put, List.setIfInBounds_toArray, List.set_cons_zero, List.set_cons_succ])))
        refine (C.out _).mono ?_
        rintro e w3 ⟨rfl, hb3⟩
        have hz4 : w.heap.size + 1 ≤ w3.heap.size := by have := hb3.size; omega
        have R3 := Lib.hid (And.intro (HK2.out.keep hb3 HK2.out.lt) (And.intro (own_kept O2.out hb3) (And.intro hz4 (HB2.out.trans (hb3.mono HB2.out.size)))))
        clear hb3 HK2 O2 HB2
        go_wp2_with fail
        go_roundg (gk - 1)
        case measure => omega
        case rel => exact ⟨i + 1, by omega, by go_num, by rw [E.out.1, E.out.2]; exact R3⟩
    · have hi4 : (n : Int) ≤ i := by omega
      go_wp2_with fail
      go_ret
      obtain rfl : i = n := by omega
      exact ⟨_, rfl, own_base hbr.out.2.1 (Nat.le_add_right _ 1), hbr.out.2.2.2⟩
end Go.Proofs.Ytmgjbgingjiimaa
