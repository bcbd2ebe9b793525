/- What is known of changes, and of those that are lacking. -/
import Derived.Test.YtmgjbgingjiimaaVec4
import Derived.Test.YtmgjbgingjiimaaApp
import Derived.Test.YtmgjbgingjiimaaMath8
import Derived.Test.YtmgjbgingjiimaaLaw08c
namespace Go.Proofs.Ytmgjbgingjiimaa
set_option linter.unusedVariables false
set_option linter.unusedSimpArgs false
open Go.ChangeShapes Go.WideShapes Go.ChangeAt Go.RowKit
set_option maxRecDepth 100000 in
set_option maxHeartbeats 8000000 in
theorem knows_walk (L M : List Int) (a a2 : Option Addr) (n0 n c m0 m c2 : Nat) (w : World) (hs : Sl w a n 9 (ints L)) (hs2 : Sl w a2 m 9 (ints M)) (hn : n = min n0 40) (hm : m = min m0 40) (hnc : n0 ≤ c) (hmc : m0 ≤ c2) (hca : a = none → c = 0) (hcb : a2 = none → c2 = 0) (hf : ∀ k, fits (L.getD k 0) = true) (fv : ∀ k, fits (M.getD k 0) = true) :
    Calls Try.prog 11 #[.slice a n0 c, .slice a2 m0 c2] w fun e w' => e = .returned (.bool true) ∧ Below w.heap.size w w' := by
  obtain ⟨i0, hi, hz0, hz1, hz2⟩ := info_parts chg_info
  have hl : Hid (L.length = n * 9) := Lib.hid (by have := hs.1; rwa [ints_len] at this)
  have hlm : Hid (M.length = m * 9) := Lib.hid (by have := hs2.1; rwa [ints_len] at this)
  have HS := Lib.hid hs
  have HS2 := Lib.hid hs2
  have HF := Lib.hid hf
  have HFV := Lib.hid fv
  have hn40 : n ≤ 40 := by omega
  have hm40 : m ≤ 40 := by omega
  clear hs hf fv hs2
  go_enter Try.func11, Try.ntmps11
  go_wp2_with fail
  refine (alive08 _).mono ?_
  rintro e w2 ⟨rfl, hb2⟩
  go_wp2_with fail
  refine (few_any a n0 c _ hnc).mono ?_
  rintro e w3 ⟨rfl, rfl⟩
  go_wp2_with fail
  refine (few_any a2 m0 c2 _ hmc).mono ?_
  rintro e w4 ⟨rfl, rfl⟩
  rw [← hn, ← hm]
  clear hn hm
  go_wp2_with fail
  refine (of_any a n c L _ (HS.out.keep (hb2.mono (Nat.le_refl _))) (by omega)).mono ?_
  rintro e w4 ⟨rfl, hb4⟩
  have HB4 := Lib.hid (hb2.trans (hb4.mono hb2.size))
  have HGZ := Lib.hid HB4.out.size
  clear hb2 hb4
  have h4v : Hid ((ofTo L n).length = 4) := Lib.hid (ofTo_len L n)
  go_upto_region 5 with (first
    | ((with_reducible apply vec_store_new); (· rfl); (· first | rfl | simp); (· rfl); (· rfl); (· assumption); (simp only [Act.put, List.setIfInBounds_toArray, List.set_cons_zero, List.set_cons_succ])))
  have A5 := Blk.new w4 (ints (ofTo L n)).toArray 53
  rw [List.toList_toArray] at A5
  have HA5 := Lib.hid A5
  have HB5 := Lib.hid (HB4.out.alloc HB4.out.size (.cells (ints (ofTo L n)).toArray 53))
  have hgz : w4.heap.size < (w4.alloc (.cells (ints (ofTo L n)).toArray 53)).heap.size := by simp
  clear A5 HB4
  generalize hgg : w4.heap.size = g at *
  generalize w4.alloc (.cells (ints (ofTo L n)).toArray 53) = w5 at *
  clear hgg w4
  go_wp2_with (first
    | (at_builtin; refine app_any _ _ 52 58 i0 (.agg #[.int .i64 0, .int .i64 0, .int .i64 0, .int .i64 0, .int .i64 0, .int .i64 0, .int .i64 0, .int .i64 0, .int .i64 0]) 9 72 Try.underlying52 hi hz0 hz1 hz2 rfl (by decide) rfl rfl (base := g + 1) (n := 0) (xs := []) rfl (World.ownsRow_nil _ _ _ _) rfl (HS.out.keep HB5.out) hca (fun u hu => ints_one hu) ?c1 ?c2 hgz ?_))
  case c1 => simp only [maxLen]; omega
  case c2 => omega
  intro v1 w6 O6 hb6
  have HO6 := Lib.hid O6
  have HB6 := Lib.hid (HB5.out.trans (hb6.mono (Nat.le_trans HGZ.out (Nat.le_succ _))))
  have HA6 := Lib.hid (HA5.out.keep hb6 (Nat.lt_succ_self _))
  have hz6 : g < w6.heap.size := Nat.lt_of_lt_of_le hgz hb6.size
  clear O6 hb6 HA5 HB5 hgz
  go_wp2_with (first
    | (at_builtin; refine app_any _ _ 52 58 i0 (.agg #[.int .i64 0, .int .i64 0, .int .i64 0, .int .i64 0, .int .i64 0, .int .i64 0, .int .i64 0, .int .i64 0, .int .i64 0]) 9 72 Try.underlying52 hi hz0 hz1 hz2 rfl (by decide) rfl rfl (base := g + 1) (n := n) (xs := ints L) rfl HO6.out rfl (HS2.out.keep HB6.out) hcb (fun u hu => ints_one hu) ?d1 ?d2 hz6 ?_))
  case d1 => simp only [maxLen]; omega
  case d2 => omega
  intro v2 w7 O7 hb7
  rw [← ints_app] at O7
  have HO7 := Lib.hid O7
  have HB7 := Lib.hid (HB6.out.trans (hb7.mono (Nat.le_trans HGZ.out (Nat.le_succ _))))
  have HA7 := Lib.hid (HA6.out.keep hb7 (Nat.lt_succ_self _))
  have hz7 : g < w7.heap.size := Nat.lt_of_lt_of_le hz6 hb7.size
  clear O7 hb7 HA6 HB6 hz6 HO6
  have tv := HA7.out.vec h4v
  go_wp2_with (first | ((with_reducible apply vec_load); (· rfl); (· (first | assumption | exact Blk.vec (by assumption) (by assumption))); (· assumption); (simp only [Act.put, List.setIfInBounds_toArray, List.set_cons_zero, List.set_cons_succ])))
  refine (lacking_any (ofTo L n) a2 m c2 M _ h4v (HS2.out.keep HB7.out) (by omega)).mono ?_
  rintro e w8 ⟨x, rfl, O8, hb8⟩
  have HO8 := Lib.hid (own_kept HO7.out hb8)
  have HX8 := Lib.hid O8
  have HB8 := Lib.hid (HB7.out.trans (hb8.mono HB7.out.size))
  have HA8 := Lib.hid (HA7.out.keep hb8 HA7.out.lt)
  clear HO7 O8 hb8 tv HA7 HB7
  have tv := HA8.out.vec h4v
  go_wp2_with (first | ((with_reducible apply vec_load); (· rfl); (· (first | assumption | exact Blk.vec (by assumption) (by assumption))); (· assumption); (simp only [Act.put, List.setIfInBounds_toArray, List.set_cons_zero, List.set_cons_succ])))
  refine (lacking_any (ofTo L n) a n c L _ h4v (HS.out.keep HB8.out) (by omega)).mono ?_
  rintro e w9 ⟨y, rfl, O9, hb9⟩
  obtain ⟨ya, yc, rfl, _, _, hys⟩ := Sl.own O9
  have HO9 := Lib.hid (own_kept HO8.out hb9)
  have HX9 := Lib.hid (own_kept HX8.out hb9)
  have HY9 := Lib.hid hys
  have HB9 := Lib.hid (HB8.out.trans (hb9.mono HB8.out.size))
  have HA9 := Lib.hid (HA8.out.keep hb9 HA8.out.lt)
  clear HO8 HX8 HB8 O9 hb9 HA8 tv hys
  have hKK := Nat.le_trans (lackN_le (ofTo L n) L n) hn40
  have HYL := Lib.hid (lackTo_len (v := ofTo L n) hl.out n (Nat.le_refl _))
  have HOWN := Lib.hid (fun i hi => own_lack hl.out (i := i) hi)
  have HJ := Lib.hid (knows_all hl.out hlm.out)
  have HLX := Lib.hid (lackN_le (ofTo L n) M m)
  have HLF := Lib.hid (ofTo_fits (fits_app HF.out HFV.out) (n + m))
  generalize lackTo (ofTo L n) L n = Y at *
  generalize lackN (ofTo L n) L n = k at *
  go_wp2_with fail
  go_loopg [9] k (fun qq s9 wr => ∃ i : Nat, qq + i = k ∧ s9 = .int .i64 i ∧ Hid (Below w9.heap.size w9 wr))
  case atStart => exact ⟨0, rfl, rfl, Lib.hid (Below.refl _ _)⟩
  case round =>
    obtain ⟨i, hqi, rfl, hbr⟩ := hrel
    by_cases hik : i < k
    · have hik' : (i : Int) < k := by omega
      have hi0 : (0 : Int) ≤ i := by omega
      obtain ⟨b, off, rfl, hb, hr0⟩ := chAt_at (HY9.out.keep hbr.out) hik
      have h9 : Hid ((chAt Y i).length = 9) := Lib.hid (chAt_len HYL.out hik)
      have c0 : wr.cell? ⟨b, off + i * 9, none⟩ = some (.int .i64 (Y.getD (i * 9) 0)) := (hr0 0 _ ((ints_get _ 0 (by rw [h9.out]; decide)).trans (by rw [chAt_get (by decide)]; rfl)))
      have c1 : wr.cell? ⟨b, off + i * 9 + 1, none⟩ = some (.int .i64 (Y.getD (i * 9 + 1) 0)) := (hr0 1 _ ((ints_get _ 1 (by rw [h9.out]; decide)).trans (by rw [chAt_get (by decide)])))
      have ho := HOWN.out i hik
      generalize Y.getD (i * 9) 0 = r at c0 ho
      generalize Y.getD (i * 9 + 1) 0 = s at c1 ho
      clear hr0
      by_cases h0 : 0 ≤ r
      · by_cases h4 : r < 4
        · have hs1 : s < 1 := ho (by unfold isRep; rw [decide_eq_true h0, decide_eq_true h4]; rfl)
          clear ho
          go_wp2_with fail
          go_roundg (gk - 1)
          case measure => omega
          case rel => exact ⟨i + 1, by omega, by go_num, hbr⟩
        · clear ho
          go_wp2_with fail
          go_roundg (gk - 1)
          case measure => omega
          case rel => exact ⟨i + 1, by omega, by go_num, hbr⟩
      · clear ho
        go_wp2_with fail
        go_roundg (gk - 1)
        case measure => omega
        case rel => exact ⟨i + 1, by omega, by go_num, hbr⟩
    · have hki : (k : Int) ≤ i := by omega
      have HA := Lib.hid (HA9.out.keep hbr.out HA9.out.lt)
      have HO := Lib.hid (own_kept HO9.out hbr.out)
      have HX := Lib.hid (own_kept HX9.out hbr.out)
      have HB := Lib.hid (HB9.out.trans (hbr.out.mono HB9.out.size))
      clear HA9 HO9 HX9 HB9 hbr HY9 HOWN HYL
      obtain ⟨xa, xc, rfl, _, _, hxs⟩ := Sl.own HX.out
      obtain ⟨za, zc, rfl, _, _, hzs⟩ := Sl.own HO.out
      have HXS := Lib.hid hxs
      have HZS := Lib.hid hzs
      clear hxs hzs
      go_upto_region 15 with fail
      have OKW := okInts (ofTo (L ++ M) (n + m)) HLF.out
      rw [ofTo_len] at OKW
      have h4l : Hid ((ofTo (lackTo (ofTo L n) M m) (lackN (ofTo L n) M m)).length = 4) := Lib.hid (ofTo_len _ _)
      refine held_begin (fun w' => Below wr.heap.size wr w') 8 [false, false, false, false, false, false, false, false] (by kernel_rfl) rfl (by rfl) ?_
      have hHeld : Below wr.heap.size wr wr.drew := (Below.refl _ _).drew
      refine held_take 0 61 [true, false, false, false, false, false, false, false] rfl (by rfl) (by rfl) (by kernel_rfl) (by kernel_rfl) (by kernel_rfl) (by rfl) (fun _ _ _ h => h) (fun w h => run_op_load rfl rfl ((HA.out.keep h HA.out.lt).vec h4v) Try.underlying53 rfl (by rw [vec_size, ints_len, h4v.out])) hHeld ?_
      simp only [Act.put, List.setIfInBounds_toArray, List.set_cons_zero, List.set_cons_succ]
      refine held_take (v := ?_) 1 62 [true, true, false, false, false, false, false, false] rfl (by rfl) (by rfl) (by kernel_rfl) (by kernel_rfl) (by kernel_rfl) (by rfl) (fun _ _ _ h => h) ?_ hHeld ?_
      rotate_left
      · intro w hSw; go_simp <;> with_reducible rfl
      simp only [Act.put, List.setIfInBounds_toArray, List.set_cons_zero, List.set_cons_succ]
      refine held_take (v := ?_) 4 65 [true, true, false, false, true, false, false, false] rfl (by rfl) (by rfl) (by kernel_rfl) (by kernel_rfl) (by kernel_rfl) (by rfl) (fun _ _ _ h => h) ?_ hHeld ?_
      rotate_left
      · intro w hSw; go_simp <;> with_reducible rfl
      simp only [Act.put, List.setIfInBounds_toArray, List.set_cons_zero, List.set_cons_succ]
      refine held_call 2 63 [true, true, true, false, true, false, false, false] (by kernel_rfl) rfl (by rfl) (by rfl) (by rfl) (by go_simp) ((of_any xa _ xc _ _ (HXS.out.keep hHeld) (by have := HLX.out; omega)).mono ?_)
      rintro e w11 ⟨rfl, hb11⟩
      refine ⟨_, rfl, hHeld.trans (hb11.mono hHeld.size), fun hHeld => ?_⟩
      simp only [Act.put, List.setIfInBounds_toArray, List.set_cons_zero, List.set_cons_succ]
      have hHeld : Below wr.heap.size wr _ := hHeld
      refine held_call 3 64 [true, true, true, true, true, false, false, false] (by kernel_rfl) rfl (by rfl) (by rfl) (by rfl) (by go_simp) ((join_any (ofTo L n) (ofTo (lackTo (ofTo L n) M m) (lackN (ofTo L n) M m)) _ h4v h4l).mono ?_)
      rintro e w12 ⟨rfl, hb12⟩
      rw [HJ.out]
      refine ⟨_, rfl, hHeld.trans (hb12.mono hHeld.size), fun hHeld => ?_⟩
      simp only [Act.put, List.setIfInBounds_toArray, List.set_cons_zero, List.set_cons_succ]
      have hHeld : Below wr.heap.size wr _ := hHeld
      refine held_call 5 66 [true, true, true, true, true, true, false, false] (by kernel_rfl) rfl (by rfl) (by rfl) (by rfl) (by go_simp) ((of_any za (n + m) zc (L ++ M) _ (HZS.out.keep hHeld) (by omega)).mono ?_)
      rintro e w13 ⟨rfl, hb13⟩
      refine ⟨_, rfl, hHeld.trans (hb13.mono hHeld.size), fun hHeld => ?_⟩
      simp only [Act.put, List.setIfInBounds_toArray, List.set_cons_zero, List.set_cons_succ]
      have hHeld : Below wr.heap.size wr _ := hHeld
      refine held_take 6 67 [true, true, true, true, true, true, true, false] rfl (by rfl) (by rfl) (by kernel_rfl) (by kernel_rfl) (by kernel_rfl) (by rfl) (fun _ _ _ h => h) (fun w h => run_op_cmp rfl rfl rfl (by kernel_rfl) (by rw [eql_flat 2 2 53 _ _ _ w flat_vec (by kernel_rfl) (by kernel_rfl) (by kernel_rfl) (by decide) OKW OKW, sameB_refl])) hHeld ?_
      simp only [Act.put, List.setIfInBounds_toArray, List.set_cons_zero, List.set_cons_succ]
      refine held_take (v := ?_) 7 4 [true, true, true, true, true, true, true, true] rfl (by rfl) (by rfl) (by kernel_rfl) (by kernel_rfl) (by kernel_rfl) (by rfl) (fun _ _ _ h => h) ?_ hHeld ?_
      rotate_left
      · intro w hSw; go_simp <;> with_reducible rfl
      simp only [Act.put, List.setIfInBounds_toArray, List.set_cons_zero, List.set_cons_succ]
      refine held_done (by kernel_rfl) ?_
      go_wp2_with fail
      go_ret
      exact ⟨rfl, HB.out.trans (hHeld.mono HB.out.size)⟩
end Go.Proofs.Ytmgjbgingjiimaa
