/- Requests that were tried: once more, and for people. -/
import Derived.Test.YtalbkpahphndiaaEnt9
import Derived.Test.YtalbkpahphndiaaRow
import Derived.Test.YtalbkpahphndiaaOps
import Derived.RegionTactic
import Derived.BigRegion
import Derived.ChangeAlike
namespace Go.Proofs.Ytalbkpahphndiaa
set_option linter.unusedVariables false
set_option linter.unusedSimpArgs false
open Go.ChangeShapes Go.WideShapes Go.ChangeAt Go.RowKit
/-- what Try answers. -/
def tryE (now : Int) (o k a n p q s l : Int) (ak gn : Bool) (b bl : Int) : List Value :=
  if ((!ak || gn) && decide ((if (ak && gn) = true then b else s) < 8)) = true then
    (if (ak && gn) = true then enc12 o k a n p q s l ak gn (wrap64 (b + 1)) now else enc12 o k a n p q (wrap64 (s + 1)) now ak gn b bl)
  else enc12 o k a n p q s l ak gn b bl
set_option maxRecDepth 100000 in
set_option maxHeartbeats 8000000 in
theorem ntry_any (o k a n p q s l : Int) (ak gn : Bool) (b bl : Int) (now : Int) (w : World) : Calls Try.prog 32 #[.agg #[.int .i64 o, .int .i64 k, .int .i64 a, .int .i64 n, .int .i64 p, .int .i64 q, .int .i64 s, .int .i64 l, .bool ak, .bool gn, .int .i64 b, .int .i64 bl], .int .i64 now] w fun e w' => e = .returned (.agg (tryE now o k a n p q s l ak gn b bl).toArray) ∧ Below w.heap.size w w' := by
  have A1 := Blk.new w #[.int .i64 o, .int .i64 k, .int .i64 a, .int .i64 n, .int .i64 p, .int .i64 q, .int .i64 s, .int .i64 l, .bool ak, .bool gn, .int .i64 b, .int .i64 bl] 49
  have hz1 : (w.alloc (.cells #[.int .i64 o, .int .i64 k, .int .i64 a, .int .i64 n, .int .i64 p, .int .i64 q, .int .i64 s, .int .i64 l, .bool ak, .bool gn, .int .i64 b, .int .i64 bl] 49)).heap.size = w.heap.size + 1 := by simp
  have AC : Blk ((w.alloc (.cells #[.int .i64 o, .int .i64 k, .int .i64 a, .int .i64 n, .int .i64 p, .int .i64 q, .int .i64 s, .int .i64 l, .bool ak, .bool gn, .int .i64 b, .int .i64 bl] 49)).alloc (.cells #[.int .i64 0, .int .i64 0, .int .i64 0, .int .i64 0, .int .i64 0, .int .i64 0, .int .i64 0, .int .i64 0, .bool false, .bool false, .int .i64 0, .int .i64 0] 49)) (w.heap.size + 1) [.int .i64 0, .int .i64 0, .int .i64 0, .int .i64 0, .int .i64 0, .int .i64 0, .int .i64 0, .int .i64 0, .bool false, .bool false, .int .i64 0, .int .i64 0] 49 := hz1 ▸ Blk.new (w.alloc (.cells #[.int .i64 o, .int .i64 k, .int .i64 a, .int .i64 n, .int .i64 p, .int .i64 q, .int .i64 s, .int .i64 l, .bool ak, .bool gn, .int .i64 b, .int .i64 bl] 49)) #[.int .i64 0, .int .i64 0, .int .i64 0, .int .i64 0, .int .i64 0, .int .i64 0, .int .i64 0, .int .i64 0, .bool false, .bool false, .int .i64 0, .int .i64 0] 49
  have HA : Hid (Blk ((w.alloc (.cells #[.int .i64 o, .int .i64 k, .int .i64 a, .int .i64 n, .int .i64 p, .int .i64 q, .int .i64 s, .int .i64 l, .bool ak, .bool gn, .int .i64 b, .int .i64 bl] 49)).alloc (.cells #[.int .i64 0, .int .i64 0, .int .i64 0, .int .i64 0, .int .i64 0, .int .i64 0, .int .i64 0, .int .i64 0, .bool false, .bool false, .int .i64 0, .int .i64 0] 49)) w.heap.size (enc12 o k a n p q s l ak gn b bl) 49) := Lib.hid (A1.alloc _)
  have HC := Lib.hid AC
  have HB := Lib.hid ((((Below.refl w.heap.size w).alloc (Nat.le_refl _) (.cells #[.int .i64 o, .int .i64 k, .int .i64 a, .int .i64 n, .int .i64 p, .int .i64 q, .int .i64 s, .int .i64 l, .bool ak, .bool gn, .int .i64 b, .int .i64 bl] 49)).alloc (by rw [hz1]; omega) (.cells #[.int .i64 0, .int .i64 0, .int .i64 0, .int .i64 0, .int .i64 0, .int .i64 0, .int .i64 0, .int .i64 0, .bool false, .bool false, .int .i64 0, .int .i64 0] 49)))
  clear A1 AC hz1
  have CO := Lib.hid (fun w => show Calls Try.prog 24 #[.agg (enc12 o k a n p q s l ak gn b bl).toArray] w _ from open_any o k a n p q s l ak gn b bl w)
  have CU := Lib.hid (fun w => show Calls Try.prog 26 #[.agg (enc12 o k a n p q s l ak gn b bl).toArray] w _ from undoes_any o k a n p q s l ak gn b bl w)
  have CT := Lib.hid (fun w => show Calls Try.prog 51 #[.agg (enc12 o k a n p q s l ak gn b bl).toArray] w _ from tries_any o k a n p q s l ak gn b bl w)
  rcases hop : (!ak || gn) with _ | _
  · rw [hop] at CO
    have HO := Lib.hid hop
    clear hop
    generalize (if (ak && gn) = true then b else s) = tn at CT
    generalize (if (ak && gn) = true then bl else l) = tl at CT
    go_enter Try.func32, Try.ntmps32
    go_upto_region 1 with fail
    generalize ((w.alloc (.cells #[.int .i64 o, .int .i64 k, .int .i64 a, .int .i64 n, .int .i64 p, .int .i64 q, .int .i64 s, .int .i64 l, .bool ak, .bool gn, .int .i64 b, .int .i64 bl] 49)).alloc (.cells #[.int .i64 0, .int .i64 0, .int .i64 0, .int .i64 0, .int .i64 0, .int .i64 0, .int .i64 0, .int .i64 0, .bool false, .bool false, .int .i64 0, .int .i64 0] 49)) = W at *
    have HV := enc12_ok o k a n p q s l ak gn b bl
    have rx : W.rangeAt w.heap.size 0 (enc12 o k a n p q s l ak gn b bl) := HA.out.range 0 _ (by simp)
    go_wp2_with (first
      | ((with_reducible apply en_load); (· rfl); (· (first | assumption)); (· assumption); (simp only [Act.put, List.setIfInBounds_toArray, List.set_cons_zero, List.set_cons_succ])) | ((with_reducible apply en_load_g); (· rfl); (· rfl); (· (first | assumption)); (· assumption); (simp only [Act.put, List.setIfInBounds_toArray, List.set_cons_zero, List.set_cons_succ])))
    refine (CT.out _).mono ?_
    rintro e w1 ⟨rfl, hb⟩
    have HB1 := Lib.hid (HB.out.trans (hb.mono HB.out.size))
    have HA1 := Lib.hid (HA.out.keep hb HA.out.lt)
    have HC1 := Lib.hid (HC.out.keep hb HC.out.lt)
    clear hb rx HA HB HC
    have rx : w1.rangeAt w.heap.size 0 (enc12 o k a n p q s l ak gn b bl) := HA1.out.range 0 _ (by simp)
    go_wp2_with (first
      | ((with_reducible apply en_load); (· rfl); (· (first | assumption)); (· assumption); (simp only [Act.put, List.setIfInBounds_toArray, List.set_cons_zero, List.set_cons_succ])) | ((with_reducible apply en_load_g); (· rfl); (· rfl); (· (first | assumption)); (· assumption); (simp only [Act.put, List.setIfInBounds_toArray, List.set_cons_zero, List.set_cons_succ])))
    refine (CO.out _).mono ?_
    rintro e w2 ⟨rfl, hb⟩
    have HB2 := Lib.hid (HB1.out.trans (hb.mono HB1.out.size))
    have HA2 := Lib.hid (HA1.out.keep hb HA1.out.lt)
    have HC2 := Lib.hid (HC1.out.keep hb HC1.out.lt)
    clear hb rx HA1 HB1 HC1
    have rx : w2.rangeAt w.heap.size 0 (enc12 o k a n p q s l ak gn b bl) := HA2.out.range 0 _ (by simp)
    have C5 := Lib.hid (HC2.out.setAll (enc12 o k a n p q s l ak gn b bl) rfl)
    have HBZ := Lib.hid (below_sets (Nat.le_succ _) (enc12 o k a n p q s l ak gn b bl) 0 _ HB2.out)
    go_wp2_with (first
      | ((with_reducible apply en_load); (· rfl); (· (first | assumption)); (· assumption); (simp only [Act.put, List.setIfInBounds_toArray, List.set_cons_zero, List.set_cons_succ])) | ((with_reducible apply en_load_g); (· rfl); (· rfl); (· (first | assumption)); (· assumption); (simp only [Act.put, List.setIfInBounds_toArray, List.set_cons_zero, List.set_cons_succ]))
      | ((with_reducible apply en_store); (· rfl); (· rfl); (· exact HC2.out); (· rfl); (· exact HV); (simp only [Act.put, List.setIfInBounds_toArray, List.set_cons_zero, List.set_cons_succ]); (generalize w2.setCells (w.heap.size + 1) 0 (enc12 o k a n p q s l ak gn b bl) = WW at *)))
    refine ret_cell (p := 4) rfl rfl C5.out Try.underlying49 rfl (by rw [en_size]; rfl) rfl ⟨by unfold tryE; rw [HO.out]; rfl, HBZ.out⟩
  · rw [hop] at CO
    have HO := Lib.hid hop
    clear hop
    rcases hu : (ak && gn) with _ | _
    · rw [hu] at CU
      rw [hu] at CT
      have HU := Lib.hid hu
      clear hu
      have CT' := Lib.hid (fun w => show Calls Try.prog 51 #[.agg (enc12 o k a n p q s l ak gn b bl).toArray] w fun e w' => e = .returned (.tuple #[.int .i64 s, .int .i64 l]) ∧ Below w.heap.size w w' from CT.out w)
      clear CT
      have CT := CT'
      clear CT'
      by_cases h8 : s < 8
      · have HD : Hid (decide (s < 8) = true) := Lib.hid (by simpa using h8)
        go_enter Try.func32, Try.ntmps32
        go_upto_region 1 with fail
        generalize ((w.alloc (.cells #[.int .i64 o, .int .i64 k, .int .i64 a, .int .i64 n, .int .i64 p, .int .i64 q, .int .i64 s, .int .i64 l, .bool ak, .bool gn, .int .i64 b, .int .i64 bl] 49)).alloc (.cells #[.int .i64 0, .int .i64 0, .int .i64 0, .int .i64 0, .int .i64 0, .int .i64 0, .int .i64 0, .int .i64 0, .bool false, .bool false, .int .i64 0, .int .i64 0] 49)) = W at *
        have HV := enc12_ok o k a n p q s l ak gn b bl
        have rx : W.rangeAt w.heap.size 0 (enc12 o k a n p q s l ak gn b bl) := HA.out.range 0 _ (by simp)
        go_wp2_with (first
          | ((with_reducible apply en_load); (· rfl); (· (first | assumption)); (· assumption); (simp only [Act.put, List.setIfInBounds_toArray, List.set_cons_zero, List.set_cons_succ])) | ((with_reducible apply en_load_g); (· rfl); (· rfl); (· (first | assumption)); (· assumption); (simp only [Act.put, List.setIfInBounds_toArray, List.set_cons_zero, List.set_cons_succ])))
        refine (CT.out _).mono ?_
        rintro e w1 ⟨rfl, hb⟩
        have HB1 := Lib.hid (HB.out.trans (hb.mono HB.out.size))
        have HA1 := Lib.hid (HA.out.keep hb HA.out.lt)
        have HC1 := Lib.hid (HC.out.keep hb HC.out.lt)
        clear hb rx HA HB HC
        have rx : w1.rangeAt w.heap.size 0 (enc12 o k a n p q s l ak gn b bl) := HA1.out.range 0 _ (by simp)
        go_wp2_with (first
          | ((with_reducible apply en_load); (· rfl); (· (first | assumption)); (· assumption); (simp only [Act.put, List.setIfInBounds_toArray, List.set_cons_zero, List.set_cons_succ])) | ((with_reducible apply en_load_g); (· rfl); (· rfl); (· (first | assumption)); (· assumption); (simp only [Act.put, List.setIfInBounds_toArray, List.set_cons_zero, List.set_cons_succ])))
        refine (CO.out _).mono ?_
        rintro e w2 ⟨rfl, hb⟩
        have HB2 := Lib.hid (HB1.out.trans (hb.mono HB1.out.size))
        have HA2 := Lib.hid (HA1.out.keep hb HA1.out.lt)
        have HC2 := Lib.hid (HC1.out.keep hb HC1.out.lt)
        clear hb rx HA1 HB1 HC1
        have rx : w2.rangeAt w.heap.size 0 (enc12 o k a n p q s l ak gn b bl) := HA2.out.range 0 _ (by simp)
        go_wp2_with (first
          | ((with_reducible apply en_load); (· rfl); (· (first | assumption)); (· assumption); (simp only [Act.put, List.setIfInBounds_toArray, List.set_cons_zero, List.set_cons_succ])) | ((with_reducible apply en_load_g); (· rfl); (· rfl); (· (first | assumption)); (· assumption); (simp only [Act.put, List.setIfInBounds_toArray, List.set_cons_zero, List.set_cons_succ])))
        refine (CU.out _).mono ?_
        rintro e w3 ⟨rfl, hb⟩
        have HB3 := Lib.hid (HB2.out.trans (hb.mono HB2.out.size))
        have HA3 := Lib.hid (HA2.out.keep hb HA2.out.lt)
        have HC3 := Lib.hid (HC2.out.keep hb HC2.out.lt)
        clear hb rx HA2 HB2 HC2
        have k6 : w3.cell? ⟨w.heap.size, 6, none⟩ = some (.int .i64 s) := HA3.out.cell 6
        have f6 := HA3.out.froz 6
        have k7 : w3.cell? ⟨w.heap.size, 7, none⟩ = some (.int .i64 l) := HA3.out.cell 7
        have f7 := HA3.out.froz 7
        go_upto_region 7 with fail
        have HA4 : Hid (Blk ((w3.setCell ⟨w.heap.size, 6, none⟩ (.int .i64 (wrap64 (s + 1)))).setCell ⟨w.heap.size, 7, none⟩ (.int .i64 now)) w.heap.size (enc12 o k a n p q (wrap64 (s + 1)) now ak gn b bl) 49) := Lib.hid ((HA3.out.set 6 (.int .i64 (wrap64 (s + 1)))).set 7 (.int .i64 now))
        have HC4 := Lib.hid ((HC3.out.set_other (show w.heap.size + 1 ≠ w.heap.size by omega) 6 (.int .i64 (wrap64 (s + 1)))).set_other (show w.heap.size + 1 ≠ w.heap.size by omega) 7 (.int .i64 now))
        have HB4 := Lib.hid (below_set (below_set HB3.out (Nat.le_refl _) 6 (.int .i64 (wrap64 (s + 1)))) (Nat.le_refl _) 7 (.int .i64 now))
        clear k6 f6 k7 f7 HA3 HB3 HC3 HV
        generalize (w3.setCell ⟨w.heap.size, 6, none⟩ (.int .i64 (wrap64 (s + 1)))).setCell ⟨w.heap.size, 7, none⟩ (.int .i64 now) = w4 at *
        have HV := enc12_ok o k a n p q (wrap64 (s + 1)) now ak gn b bl
        have rx : w4.rangeAt w.heap.size 0 (enc12 o k a n p q (wrap64 (s + 1)) now ak gn b bl) := HA4.out.range 0 _ (by simp)
        have C5 := Lib.hid (HC4.out.setAll (enc12 o k a n p q (wrap64 (s + 1)) now ak gn b bl) rfl)
        have HBZ := Lib.hid (below_sets (Nat.le_succ _) (enc12 o k a n p q (wrap64 (s + 1)) now ak gn b bl) 0 _ HB4.out)
        go_wp2_with (first
          | ((with_reducible apply en_load); (· rfl); (· (first | assumption)); (· assumption); (simp only [Act.put, List.setIfInBounds_toArray, List.set_cons_zero, List.set_cons_succ])) | ((with_reducible apply en_load_g); (· rfl); (· rfl); (· (first | assumption)); (· assumption); (simp only [Act.put, List.setIfInBounds_toArray, List.set_cons_zero, List.set_cons_succ]))
          | ((with_reducible apply en_store); (· rfl); (· rfl); (· exact HC4.out); (· rfl); (· exact HV); (simp only [Act.put, List.setIfInBounds_toArray, List.set_cons_zero, List.set_cons_succ]); (generalize w4.setCells (w.heap.size + 1) 0 (enc12 o k a n p q (wrap64 (s + 1)) now ak gn b bl) = WW at *)))
        refine ret_cell (p := 4) rfl rfl C5.out Try.underlying49 rfl (by rw [en_size]; rfl) rfl ⟨by unfold tryE; rw [HO.out, HU.out, show decide ((if false = true then b else s) < 8) = _ from HD.out]; rfl, HBZ.out⟩
      · have HD : Hid (decide (s < 8) = false) := Lib.hid (by simpa using h8)
        go_enter Try.func32, Try.ntmps32
        go_upto_region 1 with fail
        generalize ((w.alloc (.cells #[.int .i64 o, .int .i64 k, .int .i64 a, .int .i64 n, .int .i64 p, .int .i64 q, .int .i64 s, .int .i64 l, .bool ak, .bool gn, .int .i64 b, .int .i64 bl] 49)).alloc (.cells #[.int .i64 0, .int .i64 0, .int .i64 0, .int .i64 0, .int .i64 0, .int .i64 0, .int .i64 0, .int .i64 0, .bool false, .bool false, .int .i64 0, .int .i64 0] 49)) = W at *
        have HV := enc12_ok o k a n p q s l ak gn b bl
        have rx : W.rangeAt w.heap.size 0 (enc12 o k a n p q s l ak gn b bl) := HA.out.range 0 _ (by simp)
        go_wp2_with (first
          | ((with_reducible apply en_load); (· rfl); (· (first | assumption)); (· assumption); (simp only [Act.put, List.setIfInBounds_toArray, List.set_cons_zero, List.set_cons_succ])) | ((with_reducible apply en_load_g); (· rfl); (· rfl); (· (first | assumption)); (· assumption); (simp only [Act.put, List.setIfInBounds_toArray, List.set_cons_zero, List.set_cons_succ])))
        refine (CT.out _).mono ?_
        rintro e w1 ⟨rfl, hb⟩
        have HB1 := Lib.hid (HB.out.trans (hb.mono HB.out.size))
        have HA1 := Lib.hid (HA.out.keep hb HA.out.lt)
        have HC1 := Lib.hid (HC.out.keep hb HC.out.lt)
        clear hb rx HA HB HC
        have rx : w1.rangeAt w.heap.size 0 (enc12 o k a n p q s l ak gn b bl) := HA1.out.range 0 _ (by simp)
        go_wp2_with (first
          | ((with_reducible apply en_load); (· rfl); (· (first | assumption)); (· assumption); (simp only [Act.put, List.setIfInBounds_toArray, List.set_cons_zero, List.set_cons_succ])) | ((with_reducible apply en_load_g); (· rfl); (· rfl); (· (first | assumption)); (· assumption); (simp only [Act.put, List.setIfInBounds_toArray, List.set_cons_zero, List.set_cons_succ])))
        refine (CO.out _).mono ?_
        rintro e w2 ⟨rfl, hb⟩
        have HB2 := Lib.hid (HB1.out.trans (hb.mono HB1.out.size))
        have HA2 := Lib.hid (HA1.out.keep hb HA1.out.lt)
        have HC2 := Lib.hid (HC1.out.keep hb HC1.out.lt)
        clear hb rx HA1 HB1 HC1
        have rx : w2.rangeAt w.heap.size 0 (enc12 o k a n p q s l ak gn b bl) := HA2.out.range 0 _ (by simp)
        have C5 := Lib.hid (HC2.out.setAll (enc12 o k a n p q s l ak gn b bl) rfl)
        have HBZ := Lib.hid (below_sets (Nat.le_succ _) (enc12 o k a n p q s l ak gn b bl) 0 _ HB2.out)
        go_wp2_with (first
          | ((with_reducible apply en_load); (· rfl); (· (first | assumption)); (· assumption); (simp only [Act.put, List.setIfInBounds_toArray, List.set_cons_zero, List.set_cons_succ])) | ((with_reducible apply en_load_g); (· rfl); (· rfl); (· (first | assumption)); (· assumption); (simp only [Act.put, List.setIfInBounds_toArray, List.set_cons_zero, List.set_cons_succ]))
          | ((with_reducible apply en_store); (· rfl); (· rfl); (· exact HC2.out); (· rfl); (· exact HV); (simp only [Act.put, List.setIfInBounds_toArray, List.set_cons_zero, List.set_cons_succ]); (generalize w2.setCells (w.heap.size + 1) 0 (enc12 o k a n p q s l ak gn b bl) = WW at *)))
        refine ret_cell (p := 4) rfl rfl C5.out Try.underlying49 rfl (by rw [en_size]; rfl) rfl ⟨by unfold tryE; rw [HO.out, HU.out, show decide ((if false = true then b else s) < 8) = _ from HD.out]; rfl, HBZ.out⟩
    · rw [hu] at CU
      rw [hu] at CT
      have HU := Lib.hid hu
      clear hu
      have CT' := Lib.hid (fun w => show Calls Try.prog 51 #[.agg (enc12 o k a n p q s l ak gn b bl).toArray] w fun e w' => e = .returned (.tuple #[.int .i64 b, .int .i64 bl]) ∧ Below w.heap.size w w' from CT.out w)
      clear CT
      have CT := CT'
      clear CT'
      by_cases h8 : b < 8
      · have HD : Hid (decide (b < 8) = true) := Lib.hid (by simpa using h8)
        go_enter Try.func32, Try.ntmps32
        go_upto_region 1 with fail
        generalize ((w.alloc (.cells #[.int .i64 o, .int .i64 k, .int .i64 a, .int .i64 n, .int .i64 p, .int .i64 q, .int .i64 s, .int .i64 l, .bool ak, .bool gn, .int .i64 b, .int .i64 bl] 49)).alloc (.cells #[.int .i64 0, .int .i64 0, .int .i64 0, .int .i64 0, .int .i64 0, .int .i64 0, .int .i64 0, .int .i64 0, .bool false, .bool false, .int .i64 0, .int .i64 0] 49)) = W at *
        have HV := enc12_ok o k a n p q s l ak gn b bl
        have rx : W.rangeAt w.heap.size 0 (enc12 o k a n p q s l ak gn b bl) := HA.out.range 0 _ (by simp)
        go_wp2_with (first
          | ((with_reducible apply en_load); (· rfl); (· (first | assumption)); (· assumption); (simp only [Act.put, List.setIfInBounds_toArray, List.set_cons_zero, List.set_cons_succ])) | ((with_reducible apply en_load_g); (· rfl); (· rfl); (· (first | assumption)); (· assumption); (simp only [Act.put, List.setIfInBounds_toArray, List.set_cons_zero, List.set_cons_succ])))
        refine (CT.out _).mono ?_
        rintro e w1 ⟨rfl, hb⟩
        have HB1 := Lib.hid (HB.out.trans (hb.mono HB.out.size))
        have HA1 := Lib.hid (HA.out.keep hb HA.out.lt)
        have HC1 := Lib.hid (HC.out.keep hb HC.out.lt)
        clear hb rx HA HB HC
        have rx : w1.rangeAt w.heap.size 0 (enc12 o k a n p q s l ak gn b bl) := HA1.out.range 0 _ (by simp)
        go_wp2_with (first
          | ((with_reducible apply en_load); (· rfl); (· (first | assumption)); (· assumption); (simp only [Act.put, List.setIfInBounds_toArray, List.set_cons_zero, List.set_cons_succ])) | ((with_reducible apply en_load_g); (· rfl); (· rfl); (· (first | assumption)); (· assumption); (simp only [Act.put, List.setIfInBounds_toArray, List.set_cons_zero, List.set_cons_succ])))
        refine (CO.out _).mono ?_
        rintro e w2 ⟨rfl, hb⟩
        have HB2 := Lib.hid (HB1.out.trans (hb.mono HB1.out.size))
        have HA2 := Lib.hid (HA1.out.keep hb HA1.out.lt)
        have HC2 := Lib.hid (HC1.out.keep hb HC1.out.lt)
        clear hb rx HA1 HB1 HC1
        have rx : w2.rangeAt w.heap.size 0 (enc12 o k a n p q s l ak gn b bl) := HA2.out.range 0 _ (by simp)
        go_wp2_with (first
          | ((with_reducible apply en_load); (· rfl); (· (first | assumption)); (· assumption); (simp only [Act.put, List.setIfInBounds_toArray, List.set_cons_zero, List.set_cons_succ])) | ((with_reducible apply en_load_g); (· rfl); (· rfl); (· (first | assumption)); (· assumption); (simp only [Act.put, List.setIfInBounds_toArray, List.set_cons_zero, List.set_cons_succ])))
        refine (CU.out _).mono ?_
        rintro e w3 ⟨rfl, hb⟩
        have HB3 := Lib.hid (HB2.out.trans (hb.mono HB2.out.size))
        have HA3 := Lib.hid (HA2.out.keep hb HA2.out.lt)
        have HC3 := Lib.hid (HC2.out.keep hb HC2.out.lt)
        clear hb rx HA2 HB2 HC2
        have k10 : w3.cell? ⟨w.heap.size, 10, none⟩ = some (.int .i64 b) := HA3.out.cell 10
        have f10 := HA3.out.froz 10
        have k11 : w3.cell? ⟨w.heap.size, 11, none⟩ = some (.int .i64 bl) := HA3.out.cell 11
        have f11 := HA3.out.froz 11
        go_upto_region 7 with fail
        have HA4 : Hid (Blk ((w3.setCell ⟨w.heap.size, 10, none⟩ (.int .i64 (wrap64 (b + 1)))).setCell ⟨w.heap.size, 11, none⟩ (.int .i64 now)) w.heap.size (enc12 o k a n p q s l ak gn (wrap64 (b + 1)) now) 49) := Lib.hid ((HA3.out.set 10 (.int .i64 (wrap64 (b + 1)))).set 11 (.int .i64 now))
        have HC4 := Lib.hid ((HC3.out.set_other (show w.heap.size + 1 ≠ w.heap.size by omega) 10 (.int .i64 (wrap64 (b + 1)))).set_other (show w.heap.size + 1 ≠ w.heap.size by omega) 11 (.int .i64 now))
        have HB4 := Lib.hid (below_set (below_set HB3.out (Nat.le_refl _) 10 (.int .i64 (wrap64 (b + 1)))) (Nat.le_refl _) 11 (.int .i64 now))
        clear k10 f10 k11 f11 HA3 HB3 HC3 HV
        generalize (w3.setCell ⟨w.heap.size, 10, none⟩ (.int .i64 (wrap64 (b + 1)))).setCell ⟨w.heap.size, 11, none⟩ (.int .i64 now) = w4 at *
        have HV := enc12_ok o k a n p q s l ak gn (wrap64 (b + 1)) now
        have rx : w4.rangeAt w.heap.size 0 (enc12 o k a n p q s l ak gn (wrap64 (b + 1)) now) := HA4.out.range 0 _ (by simp)
        have C5 := Lib.hid (HC4.out.setAll (enc12 o k a n p q s l ak gn (wrap64 (b + 1)) now) rfl)
        have HBZ := Lib.hid (below_sets (Nat.le_succ _) (enc12 o k a n p q s l ak gn (wrap64 (b + 1)) now) 0 _ HB4.out)
        go_wp2_with (first
          | ((with_reducible apply en_load); (· rfl); (· (first | assumption)); (· assumption); (simp only [Act.put, List.setIfInBounds_toArray, List.set_cons_zero, List.set_cons_succ])) | ((with_reducible apply en_load_g); (· rfl); (· rfl); (· (first | assumption)); (· assumption); (simp only [Act.put, List.setIfInBounds_toArray, List.set_cons_zero, List.set_cons_succ]))
          | ((with_reducible apply en_store); (· rfl); (· rfl); (· exact HC4.out); (· rfl); (· exact HV); (simp only [Act.put, List.setIfInBounds_toArray, List.set_cons_zero, List.set_cons_succ]); (generalize w4.setCells (w.heap.size + 1) 0 (enc12 o k a n p q s l ak gn (wrap64 (b + 1)) now) = WW at *)))
        refine ret_cell (p := 4) rfl rfl C5.out Try.underlying49 rfl (by rw [en_size]; rfl) rfl ⟨by unfold tryE; rw [HO.out, HU.out, show decide ((if true = true then b else s) < 8) = _ from HD.out]; rfl, HBZ.out⟩
      · have HD : Hid (decide (b < 8) = false) := Lib.hid (by simpa using h8)
        go_enter Try.func32, Try.ntmps32
        go_upto_region 1 with fail
        generalize ((w.alloc (.cells #[.int .i64 o, .int .i64 k, .int .i64 a, .int .i64 n, .int .i64 p, .int .i64 q, .int .i64 s, .int .i64 l, .bool ak, .bool gn, .int .i64 b, .int .i64 bl] 49)).alloc (.cells #[.int .i64 0, .int .i64 0, .int .i64 0, .int .i64 0, .int .i64 0, .int .i64 0, .int .i64 0, .int .i64 0, .bool false, .bool false, .int .i64 0, .int .i64 0] 49)) = W at *
        have HV := enc12_ok o k a n p q s l ak gn b bl
        have rx : W.rangeAt w.heap.size 0 (enc12 o k a n p q s l ak gn b bl) := HA.out.range 0 _ (by simp)
        go_wp2_with (first
          | ((with_reducible apply en_load); (· rfl); (· (first | assumption)); (· assumption); (simp only [Act.put, List.setIfInBounds_toArray, List.set_cons_zero, List.set_cons_succ])) | ((with_reducible apply en_load_g); (· rfl); (· rfl); (· (first | assumption)); (· assumption); (simp only [Act.put, List.setIfInBounds_toArray, List.set_cons_zero, List.set_cons_succ])))
        refine (CT.out _).mono ?_
        rintro e w1 ⟨rfl, hb⟩
        have HB1 := Lib.hid (HB.out.trans (hb.mono HB.out.size))
        have HA1 := Lib.hid (HA.out.keep hb HA.out.lt)
        have HC1 := Lib.hid (HC.out.keep hb HC.out.lt)
        clear hb rx HA HB HC
        have rx : w1.rangeAt w.heap.size 0 (enc12 o k a n p q s l ak gn b bl) := HA1.out.range 0 _ (by simp)
        go_wp2_with (first
          | ((with_reducible apply en_load); (· rfl); (· (first | assumption)); (· assumption); (simp only [Act.put, List.setIfInBounds_toArray, List.set_cons_zero, List.set_cons_succ])) | ((with_reducible apply en_load_g); (· rfl); (· rfl); (· (first | assumption)); (· assumption); (simp only [Act.put, List.setIfInBounds_toArray, List.set_cons_zero, List.set_cons_succ])))
        refine (CO.out _).mono ?_
        rintro e w2 ⟨rfl, hb⟩
        have HB2 := Lib.hid (HB1.out.trans (hb.mono HB1.out.size))
        have HA2 := Lib.hid (HA1.out.keep hb HA1.out.lt)
        have HC2 := Lib.hid (HC1.out.keep hb HC1.out.lt)
        clear hb rx HA1 HB1 HC1
        have rx : w2.rangeAt w.heap.size 0 (enc12 o k a n p q s l ak gn b bl) := HA2.out.range 0 _ (by simp)
        have C5 := Lib.hid (HC2.out.setAll (enc12 o k a n p q s l ak gn b bl) rfl)
        have HBZ := Lib.hid (below_sets (Nat.le_succ _) (enc12 o k a n p q s l ak gn b bl) 0 _ HB2.out)
        go_wp2_with (first
          | ((with_reducible apply en_load); (· rfl); (· (first | assumption)); (· assumption); (simp only [Act.put, List.setIfInBounds_toArray, List.set_cons_zero, List.set_cons_succ])) | ((with_reducible apply en_load_g); (· rfl); (· rfl); (· (first | assumption)); (· assumption); (simp only [Act.put, List.setIfInBounds_toArray, List.set_cons_zero, List.set_cons_succ]))
          | ((with_reducible apply en_store); (· rfl); (· rfl); (· exact HC2.out); (· rfl); (· exact HV); (simp only [Act.put, List.setIfInBounds_toArray, List.set_cons_zero, List.set_cons_succ]); (generalize w2.setCells (w.heap.size + 1) 0 (enc12 o k a n p q s l ak gn b bl) = WW at *)))
        refine ret_cell (p := 4) rfl rfl C5.out Try.underlying49 rfl (by rw [en_size]; rfl) rfl ⟨by unfold tryE; rw [HO.out, HU.out, show decide ((if true = true then b else s) < 8) = _ from HD.out]; rfl, HBZ.out⟩
set_option maxRecDepth 100000 in
set_option maxHeartbeats 8000000 in
theorem rtry_any (o k a n p q s l : Int) (ak gn : Bool) (b bl : Int) (now : Int) (w : World) : Calls Try.prog 33 #[.agg #[.int .i64 o, .int .i64 k, .int .i64 a, .int .i64 n, .int .i64 p, .int .i64 q, .int .i64 s, .int .i64 l, .bool ak, .bool gn, .int .i64 b, .int .i64 bl], .int .i64 now] w fun e w' => e = .returned (.agg (tryE now o k a n p q s l ak gn b bl).toArray) ∧ Below w.heap.size w w' := by
  have A1 := Blk.new w #[.int .i64 o, .int .i64 k, .int .i64 a, .int .i64 n, .int .i64 p, .int .i64 q, .int .i64 s, .int .i64 l, .bool ak, .bool gn, .int .i64 b, .int .i64 bl] 52
  have hz1 : (w.alloc (.cells #[.int .i64 o, .int .i64 k, .int .i64 a, .int .i64 n, .int .i64 p, .int .i64 q, .int .i64 s, .int .i64 l, .bool ak, .bool gn, .int .i64 b, .int .i64 bl] 52)).heap.size = w.heap.size + 1 := by simp
  have AC : Blk ((w.alloc (.cells #[.int .i64 o, .int .i64 k, .int .i64 a, .int .i64 n, .int .i64 p, .int .i64 q, .int .i64 s, .int .i64 l, .bool ak, .bool gn, .int .i64 b, .int .i64 bl] 52)).alloc (.cells #[.int .i64 0, .int .i64 0, .int .i64 0, .int .i64 0, .int .i64 0, .int .i64 0, .int .i64 0, .int .i64 0, .bool false, .bool false, .int .i64 0, .int .i64 0] 52)) (w.heap.size + 1) [.int .i64 0, .int .i64 0, .int .i64 0, .int .i64 0, .int .i64 0, .int .i64 0, .int .i64 0, .int .i64 0, .bool false, .bool false, .int .i64 0, .int .i64 0] 52 := hz1 ▸ Blk.new (w.alloc (.cells #[.int .i64 o, .int .i64 k, .int .i64 a, .int .i64 n, .int .i64 p, .int .i64 q, .int .i64 s, .int .i64 l, .bool ak, .bool gn, .int .i64 b, .int .i64 bl] 52)) #[.int .i64 0, .int .i64 0, .int .i64 0, .int .i64 0, .int .i64 0, .int .i64 0, .int .i64 0, .int .i64 0, .bool false, .bool false, .int .i64 0, .int .i64 0] 52
  have HA : Hid (Blk ((w.alloc (.cells #[.int .i64 o, .int .i64 k, .int .i64 a, .int .i64 n, .int .i64 p, .int .i64 q, .int .i64 s, .int .i64 l, .bool ak, .bool gn, .int .i64 b, .int .i64 bl] 52)).alloc (.cells #[.int .i64 0, .int .i64 0, .int .i64 0, .int .i64 0, .int .i64 0, .int .i64 0, .int .i64 0, .int .i64 0, .bool false, .bool false, .int .i64 0, .int .i64 0] 52)) w.heap.size (enc12 o k a n p q s l ak gn b bl) 52) := Lib.hid (A1.alloc _)
  have HC := Lib.hid AC
  have HB := Lib.hid ((((Below.refl w.heap.size w).alloc (Nat.le_refl _) (.cells #[.int .i64 o, .int .i64 k, .int .i64 a, .int .i64 n, .int .i64 p, .int .i64 q, .int .i64 s, .int .i64 l, .bool ak, .bool gn, .int .i64 b, .int .i64 bl] 52)).alloc (by rw [hz1]; omega) (.cells #[.int .i64 0, .int .i64 0, .int .i64 0, .int .i64 0, .int .i64 0, .int .i64 0, .int .i64 0, .int .i64 0, .bool false, .bool false, .int .i64 0, .int .i64 0] 52)))
  clear A1 AC hz1
  have CO := Lib.hid (fun w => show Calls Try.prog 25 #[.agg (enc12 o k a n p q s l ak gn b bl).toArray] w _ from ropen_any o k a n p q s l ak gn b bl w)
  have CU := Lib.hid (fun w => show Calls Try.prog 27 #[.agg (enc12 o k a n p q s l ak gn b bl).toArray] w _ from rundoes_any o k a n p q s l ak gn b bl w)
  have CT := Lib.hid (fun w => show Calls Try.prog 40 #[.agg (enc12 o k a n p q s l ak gn b bl).toArray] w _ from rtries_any o k a n p q s l ak gn b bl w)
  rcases hop : (!ak || gn) with _ | _
  · rw [hop] at CO
    have HO := Lib.hid hop
    clear hop
    go_enter Try.func33, Try.ntmps33
    go_upto_region 1 with fail
    generalize ((w.alloc (.cells #[.int .i64 o, .int .i64 k, .int .i64 a, .int .i64 n, .int .i64 p, .int .i64 q, .int .i64 s, .int .i64 l, .bool ak, .bool gn, .int .i64 b, .int .i64 bl] 52)).alloc (.cells #[.int .i64 0, .int .i64 0, .int .i64 0, .int .i64 0, .int .i64 0, .int .i64 0, .int .i64 0, .int .i64 0, .bool false, .bool false, .int .i64 0, .int .i64 0] 52)) = W at *
    have HV := enc12_ok o k a n p q s l ak gn b bl
    have rx : W.rangeAt w.heap.size 0 (enc12 o k a n p q s l ak gn b bl) := HA.out.range 0 _ (by simp)
    go_wp2_with (first
      | ((with_reducible apply er_load); (· rfl); (· (first | assumption)); (· assumption); (simp only [Act.put, List.setIfInBounds_toArray, List.set_cons_zero, List.set_cons_succ])) | ((with_reducible apply er_load_g); (· rfl); (· rfl); (· (first | assumption)); (· assumption); (simp only [Act.put, List.setIfInBounds_toArray, List.set_cons_zero, List.set_cons_succ])))
    refine (CO.out _).mono ?_
    rintro e w1 ⟨rfl, hb⟩
    have HB1 := Lib.hid (HB.out.trans (hb.mono HB.out.size))
    have HA1 := Lib.hid (HA.out.keep hb HA.out.lt)
    have HC1 := Lib.hid (HC.out.keep hb HC.out.lt)
    clear hb rx HA HB HC
    have rx : w1.rangeAt w.heap.size 0 (enc12 o k a n p q s l ak gn b bl) := HA1.out.range 0 _ (by simp)
    have C5 := Lib.hid (HC1.out.setAll (enc12 o k a n p q s l ak gn b bl) rfl)
    have HBZ := Lib.hid (below_sets (Nat.le_succ _) (enc12 o k a n p q s l ak gn b bl) 0 _ HB1.out)
    go_wp2_with (first
      | ((with_reducible apply er_load); (· rfl); (· (first | assumption)); (· assumption); (simp only [Act.put, List.setIfInBounds_toArray, List.set_cons_zero, List.set_cons_succ])) | ((with_reducible apply er_load_g); (· rfl); (· rfl); (· (first | assumption)); (· assumption); (simp only [Act.put, List.setIfInBounds_toArray, List.set_cons_zero, List.set_cons_succ]))
      | ((with_reducible apply er_store); (· rfl); (· rfl); (· exact HC1.out); (· rfl); (· exact HV); (simp only [Act.put, List.setIfInBounds_toArray, List.set_cons_zero, List.set_cons_succ]); (generalize w1.setCells (w.heap.size + 1) 0 (enc12 o k a n p q s l ak gn b bl) = WW at *)))
    refine ret_cell (p := 4) rfl rfl C5.out Try.underlying52 rfl (by rw [er_size]; rfl) rfl ⟨by unfold tryE; rw [HO.out]; rfl, HBZ.out⟩
  · rw [hop] at CO
    have HO := Lib.hid hop
    clear hop
    rcases hu : (ak && gn) with _ | _
    · rw [hu] at CU
      rw [hu] at CT
      have HU := Lib.hid hu
      clear hu
      have CT' := Lib.hid (fun w => show Calls Try.prog 40 #[.agg (enc12 o k a n p q s l ak gn b bl).toArray] w fun e w' => e = .returned (.int .i64 s) ∧ Below w.heap.size w w' from CT.out w)
      clear CT
      have CT := CT'
      clear CT'
      by_cases h8 : s < 8
      · have HD : Hid (decide (s < 8) = true) := Lib.hid (by simpa using h8)
        go_enter Try.func33, Try.ntmps33
        go_upto_region 1 with fail
        generalize ((w.alloc (.cells #[.int .i64 o, .int .i64 k, .int .i64 a, .int .i64 n, .int .i64 p, .int .i64 q, .int .i64 s, .int .i64 l, .bool ak, .bool gn, .int .i64 b, .int .i64 bl] 52)).alloc (.cells #[.int .i64 0, .int .i64 0, .int .i64 0, .int .i64 0, .int .i64 0, .int .i64 0, .int .i64 0, .int .i64 0, .bool false, .bool false, .int .i64 0, .int .i64 0] 52)) = W at *
        have HV := enc12_ok o k a n p q s l ak gn b bl
        have rx : W.rangeAt w.heap.size 0 (enc12 o k a n p q s l ak gn b bl) := HA.out.range 0 _ (by simp)
        go_wp2_with (first
          | ((with_reducible apply er_load); (· rfl); (· (first | assumption)); (· assumption); (simp only [Act.put, List.setIfInBounds_toArray, List.set_cons_zero, List.set_cons_succ])) | ((with_reducible apply er_load_g); (· rfl); (· rfl); (· (first | assumption)); (· assumption); (simp only [Act.put, List.setIfInBounds_toArray, List.set_cons_zero, List.set_cons_succ])))
        refine (CO.out _).mono ?_
        rintro e w1 ⟨rfl, hb⟩
        have HB1 := Lib.hid (HB.out.trans (hb.mono HB.out.size))
        have HA1 := Lib.hid (HA.out.keep hb HA.out.lt)
        have HC1 := Lib.hid (HC.out.keep hb HC.out.lt)
        clear hb rx HA HB HC
        have rx : w1.rangeAt w.heap.size 0 (enc12 o k a n p q s l ak gn b bl) := HA1.out.range 0 _ (by simp)
        go_wp2_with (first
          | ((with_reducible apply er_load); (· rfl); (· (first | assumption)); (· assumption); (simp only [Act.put, List.setIfInBounds_toArray, List.set_cons_zero, List.set_cons_succ])) | ((with_reducible apply er_load_g); (· rfl); (· rfl); (· (first | assumption)); (· assumption); (simp only [Act.put, List.setIfInBounds_toArray, List.set_cons_zero, List.set_cons_succ])))
        refine (CT.out _).mono ?_
        rintro e w2 ⟨rfl, hb⟩
        have HB2 := Lib.hid (HB1.out.trans (hb.mono HB1.out.size))
        have HA2 := Lib.hid (HA1.out.keep hb HA1.out.lt)
        have HC2 := Lib.hid (HC1.out.keep hb HC1.out.lt)
        clear hb rx HA1 HB1 HC1
        have rx : w2.rangeAt w.heap.size 0 (enc12 o k a n p q s l ak gn b bl) := HA2.out.range 0 _ (by simp)
        go_wp2_with (first
          | ((with_reducible apply er_load); (· rfl); (· (first | assumption)); (· assumption); (simp only [Act.put, List.setIfInBounds_toArray, List.set_cons_zero, List.set_cons_succ])) | ((with_reducible apply er_load_g); (· rfl); (· rfl); (· (first | assumption)); (· assumption); (simp only [Act.put, List.setIfInBounds_toArray, List.set_cons_zero, List.set_cons_succ])))
        refine (CU.out _).mono ?_
        rintro e w3 ⟨rfl, hb⟩
        have HB3 := Lib.hid (HB2.out.trans (hb.mono HB2.out.size))
        have HA3 := Lib.hid (HA2.out.keep hb HA2.out.lt)
        have HC3 := Lib.hid (HC2.out.keep hb HC2.out.lt)
        clear hb rx HA2 HB2 HC2
        have k6 : w3.cell? ⟨w.heap.size, 6, none⟩ = some (.int .i64 s) := HA3.out.cell 6
        have f6 := HA3.out.froz 6
        have k7 : w3.cell? ⟨w.heap.size, 7, none⟩ = some (.int .i64 l) := HA3.out.cell 7
        have f7 := HA3.out.froz 7
        go_upto_region 9 with fail
        have HA4 : Hid (Blk ((w3.setCell ⟨w.heap.size, 6, none⟩ (.int .i64 (wrap64 (s + 1)))).setCell ⟨w.heap.size, 7, none⟩ (.int .i64 now)) w.heap.size (enc12 o k a n p q (wrap64 (s + 1)) now ak gn b bl) 52) := Lib.hid ((HA3.out.set 6 (.int .i64 (wrap64 (s + 1)))).set 7 (.int .i64 now))
        have HC4 := Lib.hid ((HC3.out.set_other (show w.heap.size + 1 ≠ w.heap.size by omega) 6 (.int .i64 (wrap64 (s + 1)))).set_other (show w.heap.size + 1 ≠ w.heap.size by omega) 7 (.int .i64 now))
        have HB4 := Lib.hid (below_set (below_set HB3.out (Nat.le_refl _) 6 (.int .i64 (wrap64 (s + 1)))) (Nat.le_refl _) 7 (.int .i64 now))
        clear k6 f6 k7 f7 HA3 HB3 HC3 HV
        generalize (w3.setCell ⟨w.heap.size, 6, none⟩ (.int .i64 (wrap64 (s + 1)))).setCell ⟨w.heap.size, 7, none⟩ (.int .i64 now) = w4 at *
        have HV := enc12_ok o k a n p q (wrap64 (s + 1)) now ak gn b bl
        have rx : w4.rangeAt w.heap.size 0 (enc12 o k a n p q (wrap64 (s + 1)) now ak gn b bl) := HA4.out.range 0 _ (by simp)
        have C5 := Lib.hid (HC4.out.setAll (enc12 o k a n p q (wrap64 (s + 1)) now ak gn b bl) rfl)
        have HBZ := Lib.hid (below_sets (Nat.le_succ _) (enc12 o k a n p q (wrap64 (s + 1)) now ak gn b bl) 0 _ HB4.out)
        go_wp2_with (first
          | ((with_reducible apply er_load); (· rfl); (· (first | assumption)); (· assumption); (simp only [Act.put, List.setIfInBounds_toArray, List.set_cons_zero, List.set_cons_succ])) | ((with_reducible apply er_load_g); (· rfl); (· rfl); (· (first | assumption)); (· assumption); (simp only [Act.put, List.setIfInBounds_toArray, List.set_cons_zero, List.set_cons_succ]))
          | ((with_reducible apply er_store); (· rfl); (· rfl); (· exact HC4.out); (· rfl); (· exact HV); (simp only [Act.put, List.setIfInBounds_toArray, List.set_cons_zero, List.set_cons_succ]); (generalize w4.setCells (w.heap.size + 1) 0 (enc12 o k a n p q (wrap64 (s + 1)) now ak gn b bl) = WW at *)))
        refine ret_cell (p := 4) rfl rfl C5.out Try.underlying52 rfl (by rw [er_size]; rfl) rfl ⟨by unfold tryE; rw [HO.out, HU.out, show decide ((if false = true then b else s) < 8) = _ from HD.out]; rfl, HBZ.out⟩
      · have HD : Hid (decide (s < 8) = false) := Lib.hid (by simpa using h8)
        go_enter Try.func33, Try.ntmps33
        go_upto_region 1 with fail
        generalize ((w.alloc (.cells #[.int .i64 o, .int .i64 k, .int .i64 a, .int .i64 n, .int .i64 p, .int .i64 q, .int .i64 s, .int .i64 l, .bool ak, .bool gn, .int .i64 b, .int .i64 bl] 52)).alloc (.cells #[.int .i64 0, .int .i64 0, .int .i64 0, .int .i64 0, .int .i64 0, .int .i64 0, .int .i64 0, .int .i64 0, .bool false, .bool false, .int .i64 0, .int .i64 0] 52)) = W at *
        have HV := enc12_ok o k a n p q s l ak gn b bl
        have rx : W.rangeAt w.heap.size 0 (enc12 o k a n p q s l ak gn b bl) := HA.out.range 0 _ (by simp)
        go_wp2_with (first
          | ((with_reducible apply er_load); (· rfl); (· (first | assumption)); (· assumption); (simp only [Act.put, List.setIfInBounds_toArray, List.set_cons_zero, List.set_cons_succ])) | ((with_reducible apply er_load_g); (· rfl); (· rfl); (· (first | assumption)); (· assumption); (simp only [Act.put, List.setIfInBounds_toArray, List.set_cons_zero, List.set_cons_succ])))
        refine (CO.out _).mono ?_
        rintro e w1 ⟨rfl, hb⟩
        have HB1 := Lib.hid (HB.out.trans (hb.mono HB.out.size))
        have HA1 := Lib.hid (HA.out.keep hb HA.out.lt)
        have HC1 := Lib.hid (HC.out.keep hb HC.out.lt)
        clear hb rx HA HB HC
        have rx : w1.rangeAt w.heap.size 0 (enc12 o k a n p q s l ak gn b bl) := HA1.out.range 0 _ (by simp)
        go_wp2_with (first
          | ((with_reducible apply er_load); (· rfl); (· (first | assumption)); (· assumption); (simp only [Act.put, List.setIfInBounds_toArray, List.set_cons_zero, List.set_cons_succ])) | ((with_reducible apply er_load_g); (· rfl); (· rfl); (· (first | assumption)); (· assumption); (simp only [Act.put, List.setIfInBounds_toArray, List.set_cons_zero, List.set_cons_succ])))
        refine (CT.out _).mono ?_
        rintro e w2 ⟨rfl, hb⟩
        have HB2 := Lib.hid (HB1.out.trans (hb.mono HB1.out.size))
        have HA2 := Lib.hid (HA1.out.keep hb HA1.out.lt)
        have HC2 := Lib.hid (HC1.out.keep hb HC1.out.lt)
        clear hb rx HA1 HB1 HC1
        have rx : w2.rangeAt w.heap.size 0 (enc12 o k a n p q s l ak gn b bl) := HA2.out.range 0 _ (by simp)
        have C5 := Lib.hid (HC2.out.setAll (enc12 o k a n p q s l ak gn b bl) rfl)
        have HBZ := Lib.hid (below_sets (Nat.le_succ _) (enc12 o k a n p q s l ak gn b bl) 0 _ HB2.out)
        go_wp2_with (first
          | ((with_reducible apply er_load); (· rfl); (· (first | assumption)); (· assumption); (simp only [Act.put, List.setIfInBounds_toArray, List.set_cons_zero, List.set_cons_succ])) | ((with_reducible apply er_load_g); (· rfl); (· rfl); (· (first | assumption)); (· assumption); (simp only [Act.put, List.setIfInBounds_toArray, List.set_cons_zero, List.set_cons_succ]))
          | ((with_reducible apply er_store); (· rfl); (· rfl); (· exact HC2.out); (· rfl); (· exact HV); (simp only [Act.put, List.setIfInBounds_toArray, List.set_cons_zero, List.set_cons_succ]); (generalize w2.setCells (w.heap.size + 1) 0 (enc12 o k a n p q s l ak gn b bl) = WW at *)))
        refine ret_cell (p := 4) rfl rfl C5.out Try.underlying52 rfl (by rw [er_size]; rfl) rfl ⟨by unfold tryE; rw [HO.out, HU.out, show decide ((if false = true then b else s) < 8) = _ from HD.out]; rfl, HBZ.out⟩
    · rw [hu] at CU
      rw [hu] at CT
      have HU := Lib.hid hu
      clear hu
      have CT' := Lib.hid (fun w => show Calls Try.prog 40 #[.agg (enc12 o k a n p q s l ak gn b bl).toArray] w fun e w' => e = .returned (.int .i64 b) ∧ Below w.heap.size w w' from CT.out w)
      clear CT
      have CT := CT'
      clear CT'
      by_cases h8 : b < 8
      · have HD : Hid (decide (b < 8) = true) := Lib.hid (by simpa using h8)
        go_enter Try.func33, Try.ntmps33
        go_upto_region 1 with fail
        generalize ((w.alloc (.cells #[.int .i64 o, .int .i64 k, .int .i64 a, .int .i64 n, .int .i64 p, .int .i64 q, .int .i64 s, .int .i64 l, .bool ak, .bool gn, .int .i64 b, .int .i64 bl] 52)).alloc (.cells #[.int .i64 0, .int .i64 0, .int .i64 0, .int .i64 0, .int .i64 0, .int .i64 0, .int .i64 0, .int .i64 0, .bool false, .bool false, .int .i64 0, .int .i64 0] 52)) = W at *
        have HV := enc12_ok o k a n p q s l ak gn b bl
        have rx : W.rangeAt w.heap.size 0 (enc12 o k a n p q s l ak gn b bl) := HA.out.range 0 _ (by simp)
        go_wp2_with (first
          | ((with_reducible apply er_load); (· rfl); (· (first | assumption)); (· assumption); (simp only [Act.put, List.setIfInBounds_toArray, List.set_cons_zero, List.set_cons_succ])) | ((with_reducible apply er_load_g); (· rfl); (· rfl); (· (first | assumption)); (· assumption); (simp only [Act.put, List.setIfInBounds_toArray, List.set_cons_zero, List.set_cons_succ])))
        refine (CO.out _).mono ?_
        rintro e w1 ⟨rfl, hb⟩
        have HB1 := Lib.hid (HB.out.trans (hb.mono HB.out.size))
        have HA1 := Lib.hid (HA.out.keep hb HA.out.lt)
        have HC1 := Lib.hid (HC.out.keep hb HC.out.lt)
        clear hb rx HA HB HC
        have rx : w1.rangeAt w.heap.size 0 (enc12 o k a n p q s l ak gn b bl) := HA1.out.range 0 _ (by simp)
        go_wp2_with (first
          | ((with_reducible apply er_load); (· rfl); (· (first | assumption)); (· assumption); (simp only [Act.put, List.setIfInBounds_toArray, List.set_cons_zero, List.set_cons_succ])) | ((with_reducible apply er_load_g); (· rfl); (· rfl); (· (first | assumption)); (· assumption); (simp only [Act.put, List.setIfInBounds_toArray, List.set_cons_zero, List.set_cons_succ])))
        refine (CT.out _).mono ?_
        rintro e w2 ⟨rfl, hb⟩
        have HB2 := Lib.hid (HB1.out.trans (hb.mono HB1.out.size))
        have HA2 := Lib.hid (HA1.out.keep hb HA1.out.lt)
        have HC2 := Lib.hid (HC1.out.keep hb HC1.out.lt)
        clear hb rx HA1 HB1 HC1
        have rx : w2.rangeAt w.heap.size 0 (enc12 o k a n p q s l ak gn b bl) := HA2.out.range 0 _ (by simp)
        go_wp2_with (first
          | ((with_reducible apply er_load); (· rfl); (· (first | assumption)); (· assumption); (simp only [Act.put, List.setIfInBounds_toArray, List.set_cons_zero, List.set_cons_succ])) | ((with_reducible apply er_load_g); (· rfl); (· rfl); (· (first | assumption)); (· assumption); (simp only [Act.put, List.setIfInBounds_toArray, List.set_cons_zero, List.set_cons_succ])))
        refine (CU.out _).mono ?_
        rintro e w3 ⟨rfl, hb⟩
        have HB3 := Lib.hid (HB2.out.trans (hb.mono HB2.out.size))
        have HA3 := Lib.hid (HA2.out.keep hb HA2.out.lt)
        have HC3 := Lib.hid (HC2.out.keep hb HC2.out.lt)
        clear hb rx HA2 HB2 HC2
        have k10 : w3.cell? ⟨w.heap.size, 10, none⟩ = some (.int .i64 b) := HA3.out.cell 10
        have f10 := HA3.out.froz 10
        have k11 : w3.cell? ⟨w.heap.size, 11, none⟩ = some (.int .i64 bl) := HA3.out.cell 11
        have f11 := HA3.out.froz 11
        go_upto_region 6 with fail
        have HA4 : Hid (Blk ((w3.setCell ⟨w.heap.size, 10, none⟩ (.int .i64 (wrap64 (b + 1)))).setCell ⟨w.heap.size, 11, none⟩ (.int .i64 now)) w.heap.size (enc12 o k a n p q s l ak gn (wrap64 (b + 1)) now) 52) := Lib.hid ((HA3.out.set 10 (.int .i64 (wrap64 (b + 1)))).set 11 (.int .i64 now))
        have HC4 := Lib.hid ((HC3.out.set_other (show w.heap.size + 1 ≠ w.heap.size by omega) 10 (.int .i64 (wrap64 (b + 1)))).set_other (show w.heap.size + 1 ≠ w.heap.size by omega) 11 (.int .i64 now))
        have HB4 := Lib.hid (below_set (below_set HB3.out (Nat.le_refl _) 10 (.int .i64 (wrap64 (b + 1)))) (Nat.le_refl _) 11 (.int .i64 now))
        clear k10 f10 k11 f11 HA3 HB3 HC3 HV
        generalize (w3.setCell ⟨w.heap.size, 10, none⟩ (.int .i64 (wrap64 (b + 1)))).setCell ⟨w.heap.size, 11, none⟩ (.int .i64 now) = w4 at *
        have HV := enc12_ok o k a n p q s l ak gn (wrap64 (b + 1)) now
        have rx : w4.rangeAt w.heap.size 0 (enc12 o k a n p q s l ak gn (wrap64 (b + 1)) now) := HA4.out.range 0 _ (by simp)
        have C5 := Lib.hid (HC4.out.setAll (enc12 o k a n p q s l ak gn (wrap64 (b + 1)) now) rfl)
        have HBZ := Lib.hid (below_sets (Nat.le_succ _) (enc12 o k a n p q s l ak gn (wrap64 (b + 1)) now) 0 _ HB4.out)
        go_wp2_with (first
          | ((with_reducible apply er_load); (· rfl); (· (first | assumption)); (· assumption); (simp only [Act.put, List.setIfInBounds_toArray, List.set_cons_zero, List.set_cons_succ])) | ((with_reducible apply er_load_g); (· rfl); (· rfl); (· (first | assumption)); (· assumption); (simp only [Act.put, List.setIfInBounds_toArray, List.set_cons_zero, List.set_cons_succ]))
          | ((with_reducible apply er_store); (· rfl); (· rfl); (· exact HC4.out); (· rfl); (· exact HV); (simp only [Act.put, List.setIfInBounds_toArray, List.set_cons_zero, List.set_cons_succ]); (generalize w4.setCells (w.heap.size + 1) 0 (enc12 o k a n p q s l ak gn (wrap64 (b + 1)) now) = WW at *)))
        refine ret_cell (p := 4) rfl rfl C5.out Try.underlying52 rfl (by rw [er_size]; rfl) rfl ⟨by unfold tryE; rw [HO.out, HU.out, show decide ((if true = true then b else s) < 8) = _ from HD.out]; rfl, HBZ.out⟩
      · have HD : Hid (decide (b < 8) = false) := Lib.hid (by simpa using h8)
        go_enter Try.func33, Try.ntmps33
        go_upto_region 1 with fail
        generalize ((w.alloc (.cells #[.int .i64 o, .int .i64 k, .int .i64 a, .int .i64 n, .int .i64 p, .int .i64 q, .int .i64 s, .int .i64 l, .bool ak, .bool gn, .int .i64 b, .int .i64 bl] 52)).alloc (.cells #[.int .i64 0, .int .i64 0, .int .i64 0, .int .i64 0, .int .i64 0, .int .i64 0, .int .i64 0, .int .i64 0, .bool false, .bool false, .int .i64 0, .int .i64 0] 52)) = W at *
        have HV := enc12_ok o k a n p q s l ak gn b bl
        have rx : W.rangeAt w.heap.size 0 (enc12 o k a n p q s l ak gn b bl) := HA.out.range 0 _ (by simp)
        go_wp2_with (first
          | ((with_reducible apply er_load); (· rfl); (· (first | assumption)); (· assumption); (simp only [Act.put, List.setIfInBounds_toArray, List.set_cons_zero, List.set_cons_succ])) | ((with_reducible apply er_load_g); (· rfl); (· rfl); (· (first | assumption)); (· assumption); (simp only [Act.put, List.setIfInBounds_toArray, List.set_cons_zero, List.set_cons_succ])))
        refine (CO.out _).mono ?_
        rintro e w1 ⟨rfl, hb⟩
        have HB1 := Lib.hid (HB.out.trans (hb.mono HB.out.size))
        have HA1 := Lib.hid (HA.out.keep hb HA.out.lt)
        have HC1 := Lib.hid (HC.out.keep hb HC.out.lt)
        clear hb rx HA HB HC
        have rx : w1.rangeAt w.heap.size 0 (enc12 o k a n p q s l ak gn b bl) := HA1.out.range 0 _ (by simp)
        go_wp2_with (first
          | ((with_reducible apply er_load); (· rfl); (· (first | assumption)); (· assumption); (simp only [Act.put, List.setIfInBounds_toArray, List.set_cons_zero, List.set_cons_succ])) | ((with_reducible apply er_load_g); (· rfl); (· rfl); (· (first | assumption)); (· assumption); (simp only [Act.put, List.setIfInBounds_toArray, List.set_cons_zero, List.set_cons_succ])))
        refine (CT.out _).mono ?_
        rintro e w2 ⟨rfl, hb⟩
        have HB2 := Lib.hid (HB1.out.trans (hb.mono HB1.out.size))
        have HA2 := Lib.hid (HA1.out.keep hb HA1.out.lt)
        have HC2 := Lib.hid (HC1.out.keep hb HC1.out.lt)
        clear hb rx HA1 HB1 HC1
        have rx : w2.rangeAt w.heap.size 0 (enc12 o k a n p q s l ak gn b bl) := HA2.out.range 0 _ (by simp)
        have C5 := Lib.hid (HC2.out.setAll (enc12 o k a n p q s l ak gn b bl) rfl)
        have HBZ := Lib.hid (below_sets (Nat.le_succ _) (enc12 o k a n p q s l ak gn b bl) 0 _ HB2.out)
        go_wp2_with (first
          | ((with_reducible apply er_load); (· rfl); (· (first | assumption)); (· assumption); (simp only [Act.put, List.setIfInBounds_toArray, List.set_cons_zero, List.set_cons_succ])) | ((with_reducible apply er_load_g); (· rfl); (· rfl); (· (first | assumption)); (· assumption); (simp only [Act.put, List.setIfInBounds_toArray, List.set_cons_zero, List.set_cons_succ]))
          | ((with_reducible apply er_store); (· rfl); (· rfl); (· exact HC2.out); (· rfl); (· exact HV); (simp only [Act.put, List.setIfInBounds_toArray, List.set_cons_zero, List.set_cons_succ]); (generalize w2.setCells (w.heap.size + 1) 0 (enc12 o k a n p q s l ak gn b bl) = WW at *)))
        refine ret_cell (p := 4) rfl rfl C5.out Try.underlying52 rfl (by rw [er_size]; rfl) rfl ⟨by unfold tryE; rw [HO.out, HU.out, show decide ((if true = true then b else s) < 8) = _ from HD.out]; rfl, HBZ.out⟩
end Go.Proofs.Ytalbkpahphndiaa
