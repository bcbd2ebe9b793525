/- The reference's octets of a step, and what comes back of them. -/
import Derived.Test.YteijahcbfncebaaDoorCode16
import Derived.Deep.DeepCutAuto
import Derived.RegionTactic
import Derived.BigRegion
import Derived.ChangeAlike
namespace Go.Proofs.YteijahcbfncebaaDoor
set_option linter.unusedVariables false
set_option linter.unusedSimpArgs false
open Go.ChangeShapes Go.WideShapes Go.ChangeAt Go.RowKit
set_option maxRecDepth 100000 in
set_option maxHeartbeats 8000000 in
theorem rput31_any (k r i n i1 i2 t ck a b cn p q : Int) (w : World) :
    Calls Tryd.prog 12 #[.agg #[.int .i64 k, .int .i64 r, .int .i64 i, .int .i64 n, .int .i64 i1, .int .i64 i2, .int .i64 t, .int .i64 ck, .int .i64 a, .int .i64 b, .int .i64 cn, .int .i64 p, .int .i64 q]] w fun e w' => ∃ a' c', e = .returned (.slice a' 21 c') ∧ Sl w' a' 21 1 (bcells (encS k r i n ck a b cn p q)) ∧ Below w.heap.size w w' := by
  obtain ⟨i0, hi, hzz0, hzz1, hzz2⟩ := info_parts u8_info
  have HAW : Hid (Blk (w.alloc (.cells #[.int .i64 k, .int .i64 r, .int .i64 i, .int .i64 n, .int .i64 i1, .int .i64 i2, .int .i64 t, .int .i64 ck, .int .i64 a, .int .i64 b, .int .i64 cn, .int .i64 p, .int .i64 q] 27)) w.heap.size (ints [k, r, i, n, i1, i2, t, ck, a, b, cn, p, q]) 27) := Lib.hid (Blk.new w #[.int .i64 k, .int .i64 r, .int .i64 i, .int .i64 n, .int .i64 i1, .int .i64 i2, .int .i64 t, .int .i64 ck, .int .i64 a, .int .i64 b, .int .i64 cn, .int .i64 p, .int .i64 q] 27)
  have HBW := Lib.hid ((Below.refl w.heap.size w).alloc (Nat.le_refl _) (.cells #[.int .i64 k, .int .i64 r, .int .i64 i, .int .i64 n, .int .i64 i1, .int .i64 i2, .int .i64 t, .int .i64 ck, .int .i64 a, .int .i64 b, .int .i64 cn, .int .i64 p, .int .i64 q] 27))
  go_enter Tryd.func12, Tryd.ntmps12
  go_upto_region 1 with fail
  generalize w.alloc (.cells #[.int .i64 k, .int .i64 r, .int .i64 i, .int .i64 n, .int .i64 i1, .int .i64 i2, .int .i64 t, .int .i64 ck, .int .i64 a, .int .i64 b, .int .i64 cn, .int .i64 p, .int .i64 q] 27) = x0 at *
  have HA0 := HAW
  have HB0 := HBW
  clear HAW HBW
  have HL0 : Hid (Sl (x0.alloc (.cells #[.int .u8 (IntKind.u8.wrap k), .int .u8 (IntKind.u8.wrap r), .int .u8 (IntKind.u8.wrap i)] 5)) (some ⟨x0.heap.size, 0, none⟩) 3 1 (bcells (beOf (u64 k) 1 ++ beOf (u64 r) 1 ++ beOf (u64 i) 1))) := Lib.hid (by rw [← lit3]; exact lit_sl x0 [.int .u8 (IntKind.u8.wrap k), .int .u8 (IntKind.u8.wrap r), .int .u8 (IntKind.u8.wrap i)] (by simp))
  have HAl := Lib.hid (HA0.out.alloc (.cells #[.int .u8 (IntKind.u8.wrap k), .int .u8 (IntKind.u8.wrap r), .int .u8 (IntKind.u8.wrap i)] 5))
  have HBl := Lib.hid (HB0.out.alloc HB0.out.size (.cells #[.int .u8 (IntKind.u8.wrap k), .int .u8 (IntKind.u8.wrap r), .int .u8 (IntKind.u8.wrap i)] 5))
  have hzl : Hid (w.heap.size < (x0.alloc (.cells #[.int .u8 (IntKind.u8.wrap k), .int .u8 (IntKind.u8.wrap r), .int .u8 (IntKind.u8.wrap i)] 5)).heap.size) := Lib.hid HAl.out.lt
  have cc : x0.cell? ⟨w.heap.size, 3, none⟩ = some (.int .i64 n) := HA0.out.cell 3
  have hq0 : w.heap.size < x0.heap.size := HA0.out.lt
  have HW := Lib.hid (u64_wrap n)
  have cc0 : x0.cell? ⟨w.heap.size, 0, none⟩ = some (.int .i64 k) := HA0.out.cell 0
  have cc1 : x0.cell? ⟨w.heap.size, 1, none⟩ = some (.int .i64 r) := HA0.out.cell 1
  have cc2 : x0.cell? ⟨w.heap.size, 2, none⟩ = some (.int .i64 i) := HA0.out.cell 2
  have P0 := rput_ok (some ⟨x0.heap.size, 0, none⟩) 3 3 (beOf (u64 k) 1 ++ beOf (u64 r) 1 ++ beOf (u64 i) 1) (u64 n) 4 (x0.alloc (.cells #[.int .u8 (IntKind.u8.wrap k), .int .u8 (IntKind.u8.wrap r), .int .u8 (IntKind.u8.wrap i)] 5)) HL0.out (by decide) (by decide) (by decide) (u64_lt n)
  simp only [Nat.reduceAdd, Nat.zero_add] at P0
  rw [show (((4 : Nat) : Int)) = 4 from rfl] at P0
  have P := Lib.hid P0
  clear P0
  go_wp2_with fail
  rw [HW.out]
  refine P.out.mono ?_
  rintro e x1 ⟨v1, rfl, ho, hb⟩
  rw [show (x0.alloc (.cells #[.int .u8 (IntKind.u8.wrap k), .int .u8 (IntKind.u8.wrap r), .int .u8 (IntKind.u8.wrap i)] 5)).heap.size = x0.heap.size + 1 by simp] at ho
  obtain ⟨a1, c1, rfl, _, _, hs⟩ := Sl.own ho
  have HO1 := Lib.hid ho
  have HS1 := Lib.hid hs
  have HB1 := Lib.hid (HBl.out.trans (hb.mono HBl.out.size))
  have HA1 := Lib.hid (HAl.out.keep hb HAl.out.lt)
  have hz1 : Hid (x0.heap.size + 1 ≤ x1.heap.size) := Lib.hid (by have := hb.size; simpa using this)
  have hy1 : Hid (w.heap.size < x0.heap.size + 1) := Lib.hid (Nat.lt_succ_of_lt hq0)
  clear ho hs hb P cc HW HL0 HAl HBl hzl hq0 cc0 cc1 cc2 HA0 HB0
  generalize hX : (beOf (u64 k) 1 ++ beOf (u64 r) 1 ++ beOf (u64 i) 1) ++ beOf (u64 n) 4 = X1 at *
  have HX1 := Lib.hid hX
  clear hX
  have cc0 : x1.cell? ⟨w.heap.size, 7, none⟩ = some (.int .i64 ck) := HA1.out.cell 7
  have cc1 : x1.cell? ⟨w.heap.size, 8, none⟩ = some (.int .i64 a) := HA1.out.cell 8
  have cc2 : x1.cell? ⟨w.heap.size, 9, none⟩ = some (.int .i64 b) := HA1.out.cell 9
  have HL := Lib.hid (lit_sl x1 [.int .u8 (IntKind.u8.wrap ck), .int .u8 (IntKind.u8.wrap a), .int .u8 (IntKind.u8.wrap b)] (by simp))
  have HOi := Lib.hid (own_stay HO1.out ((Below.refl _ _).alloc (Nat.le_refl _) (.cells #[.int .u8 (IntKind.u8.wrap ck), .int .u8 (IntKind.u8.wrap a), .int .u8 (IntKind.u8.wrap b)] 5)))
  have HAi := Lib.hid (HA1.out.alloc (.cells #[.int .u8 (IntKind.u8.wrap ck), .int .u8 (IntKind.u8.wrap a), .int .u8 (IntKind.u8.wrap b)] 5))
  have HBi := Lib.hid (HB1.out.alloc HB1.out.size (.cells #[.int .u8 (IntKind.u8.wrap ck), .int .u8 (IntKind.u8.wrap a), .int .u8 (IntKind.u8.wrap b)] 5))
  go_wp2_with (first
    | (at_builtin; refine app_any _ _ 30 5 i0 (.int .u8 0) 1 1 Tryd.underlying30 hi hzz0 hzz1 hzz2 rfl (by decide) rfl rfl rfl HOi.out rfl HL.out (fun h => by cases h) (by simp [Value.oneCell']) ?c1 ?c2 ?c3 ?_))
  case c1 => decide
  case c2 => decide
  case c3 => exact Nat.le_trans hz1.out (by first | exact Nat.le_refl _ | simp)
  intro v2 x2 ho hb
  rw [lit3, ← bcells_add] at ho
  obtain ⟨a2, c2, rfl, _, _, hs⟩ := Sl.own ho
  have HO2 := Lib.hid ho
  have HS2 := Lib.hid hs
  have HB2 := Lib.hid (HBi.out.trans (hb.mono (Nat.le_of_lt hy1.out)))
  have HA2 := Lib.hid (HAi.out.keep hb hy1.out)
  have hy2 := hy1
  have hz2 : Hid ((x0.heap.size + 1) ≤ x2.heap.size) := Lib.hid (Nat.le_trans hz1.out (Nat.le_trans (by simp) hb.size))
  clear ho hs hb HL HOi HAi HBi HS1 HB1 HO1 HA1 hy1 hz1 cc0 cc1 cc2
  generalize hX : X1 ++ (beOf (u64 ck) 1 ++ beOf (u64 a) 1 ++ beOf (u64 b) 1) = X2 at *
  have HX2 := Lib.hid hX
  clear hX
  have cc : x2.cell? ⟨w.heap.size, 10, none⟩ = some (.int .i64 cn) := HA2.out.cell 10
  have HW := Lib.hid (u64_wrap cn)
  have P0 := rput_ok a2 10 c2 X2 (u64 cn) 8 x2 HS2.out (by decide) (by decide) (by decide) (u64_lt cn)
  simp only [Nat.reduceAdd, Nat.zero_add] at P0
  rw [show (((8 : Nat) : Int)) = 8 from rfl] at P0
  have P := Lib.hid P0
  clear P0
  go_wp2_with fail
  rw [HW.out]
  refine P.out.mono ?_
  rintro e x3 ⟨v3, rfl, ho, hb⟩
  obtain ⟨a3, c3, rfl, _, _, hs⟩ := Sl.own ho
  have HO3 := Lib.hid ho
  have HS3 := Lib.hid hs
  have HB3 := Lib.hid (HB2.out.trans (hb.mono HB2.out.size))
  have HA3 := Lib.hid (HA2.out.keep hb HA2.out.lt)
  have hy3 : Hid (w.heap.size < x2.heap.size) := Lib.hid HA2.out.lt
  have hz3 : Hid (x2.heap.size ≤ x3.heap.size) := Lib.hid hb.size
  clear ho hs hb P cc HW HS2 HB2 HO2 HA2 hy2 hz2
  generalize hX : X2 ++ beOf (u64 cn) 8 = X3 at *
  have HX3 := Lib.hid hX
  clear hX
  have cc0 : x3.cell? ⟨w.heap.size, 11, none⟩ = some (.int .i64 p) := HA3.out.cell 11
  have HL := Lib.hid (lit_sl x3 [.int .u8 (IntKind.u8.wrap p)] (by simp))
  have HOi := Lib.hid (own_stay HO3.out ((Below.refl _ _).alloc (Nat.le_refl _) (.cells #[.int .u8 (IntKind.u8.wrap p)] 5)))
  have HAi := Lib.hid (HA3.out.alloc (.cells #[.int .u8 (IntKind.u8.wrap p)] 5))
  have HBi := Lib.hid (HB3.out.alloc HB3.out.size (.cells #[.int .u8 (IntKind.u8.wrap p)] 5))
  go_wp2_with (first
    | (at_builtin; refine app_any _ _ 30 5 i0 (.int .u8 0) 1 1 Tryd.underlying30 hi hzz0 hzz1 hzz2 rfl (by decide) rfl rfl rfl HOi.out rfl HL.out (fun h => by cases h) (by simp [Value.oneCell']) ?c1 ?c2 ?c3 ?_))
  case c1 => decide
  case c2 => decide
  case c3 => exact Nat.le_trans hz3.out (by first | exact Nat.le_refl _ | simp)
  intro v4 x4 ho hb
  rw [lit1, ← bcells_add] at ho
  obtain ⟨a4, c4, rfl, _, _, hs⟩ := Sl.own ho
  have HO4 := Lib.hid ho
  have HS4 := Lib.hid hs
  have HB4 := Lib.hid (HBi.out.trans (hb.mono (Nat.le_of_lt hy3.out)))
  have HA4 := Lib.hid (HAi.out.keep hb hy3.out)
  have hy4 := hy3
  have hz4 : Hid (x2.heap.size ≤ x4.heap.size) := Lib.hid (Nat.le_trans hz3.out (Nat.le_trans (by simp) hb.size))
  clear ho hs hb HL HOi HAi HBi HS3 HB3 HO3 HA3 hy3 hz3 cc0
  generalize hX : X3 ++ beOf (u64 p) 1 = X4 at *
  have HX4 := Lib.hid hX
  clear hX
  have cc : x4.cell? ⟨w.heap.size, 12, none⟩ = some (.int .i64 q) := HA4.out.cell 12
  have HW := Lib.hid (u64_wrap q)
  have P0 := rput_ok a4 19 c4 X4 (u64 q) 2 x4 HS4.out (by decide) (by decide) (by decide) (u64_lt q)
  simp only [Nat.reduceAdd, Nat.zero_add] at P0
  rw [show (((2 : Nat) : Int)) = 2 from rfl] at P0
  have P := Lib.hid P0
  clear P0
  go_wp2_with fail
  rw [HW.out]
  refine P.out.mono ?_
  rintro e x5 ⟨v5, rfl, ho, hb⟩
  obtain ⟨a5, c5, rfl, _, _, hs⟩ := Sl.own ho
  have HO5 := Lib.hid ho
  have HS5 := Lib.hid hs
  have HB5 := Lib.hid (HB4.out.trans (hb.mono HB4.out.size))
  have HA5 := Lib.hid (HA4.out.keep hb HA4.out.lt)
  have hy5 : Hid (w.heap.size < x4.heap.size) := Lib.hid HA4.out.lt
  have hz5 : Hid (x4.heap.size ≤ x5.heap.size) := Lib.hid hb.size
  clear ho hs hb P cc HW HS4 HB4 HO4 HA4 hy4 hz4
  generalize hX : X4 ++ beOf (u64 q) 2 = X5 at *
  have HX5 := Lib.hid hX
  clear hX
  go_wp2_with fail
  go_ret
  exact ⟨a5, c5, rfl, by have := HS5.out; rw [← HX5.out, ← HX4.out, ← HX3.out, ← HX2.out, ← HX1.out] at this; exact this, HB5.out⟩
theorem back_any {z : Int} (hz : fits z = true) : wrap64 (numOf (beOf (u64 z) 8) : Int) = z := by
  obtain ⟨h1, h2⟩ := (fits_iff z).1 hz
  rw [nb_beOf, Nat.mod_eq_of_lt (by unfold u64; omega)]
  unfold u64 wrap64
  omega
/-- a step that may be. -/
theorem chk_zero {k r i n i1 i2 t ck a b cn p q : Int} (hf : ∀ z ∈ ([k, r, i, n, i1, i2, t, ck, a, b, cn, p, q] : List Int), fits z = true) (h : chkS k r i n i1 i2 t ck a b cn p q = 0) :
    (1 ≤ k ∧ k ≤ 15) ∧ allOct [r, i, ck, a, b, p] = true ∧ inB n 0 2147483647 = true ∧ (0 ≤ q ∧ q ≤ 65535) ∧ i1 = 0 ∧ i2 = 0 ∧ t = 0 := by
  unfold chkS at h
  by_cases h1 : k < 1 ∨ 15 < k
  · rw [if_pos h1] at h; cases h
  rw [if_neg h1] at h
  by_cases h2 : inB n 0 2147483647 = false ∨ q < 0 ∨ 65535 < q
  · rw [if_pos h2] at h; cases h
  rw [if_neg h2] at h
  by_cases h3 : allOct [r, i, ck, a, b, p] = false
  · rw [if_pos h3] at h; cases h
  rw [if_neg h3] at h
  by_cases h4 : sameB (ints [k, r, i, n, i1, i2, t, ck, a, b, cn, p, q]) (ints (ownL k.toNat r i n ck a b cn p q)) = true
  · obtain ⟨kk, rfl⟩ := Int.eq_ofNat_of_zero_le (show 0 ≤ k by omega)
    rw [own_bits _ r i n ck a b cn p q (by omega) (by omega)] at h4
    obtain ⟨_, _, _, e1, e2, e3, _⟩ := (same_just hf).1 h4
    refine ⟨by omega, ?_, ?_, by omega, e1, e2, e3⟩
    · rcases hx : allOct [r, i, ck, a, b, p] with _ | _
      · exact absurd hx h3
      · rfl
    · rcases hx : inB n 0 2147483647 with _ | _
      · exact absurd (Or.inl hx) h2
      · rfl
  · rw [if_neg h4] at h; cases h
theorem oct_of {r i ck a b p : Int} (h : allOct [r, i, ck, a, b, p] = true) : (0 ≤ r ∧ r ≤ 255) ∧ (0 ≤ i ∧ i ≤ 255) ∧ (0 ≤ ck ∧ ck ≤ 255) ∧ (0 ≤ a ∧ a ≤ 255) ∧ (0 ≤ b ∧ b ≤ 255) ∧ (0 ≤ p ∧ p ≤ 255) := by
  unfold allOct at h
  simp only [List.all_cons, List.all_nil, Bool.and_true, Bool.and_eq_true, inB_iff] at h
  exact h
/-- what comes back of a step's octets. -/
theorem dec_encS {k r i n ck a b cn p q : Int} (hk : 0 ≤ k ∧ k ≤ 255) (ho : allOct [r, i, ck, a, b, p] = true) (hn : inB n 0 2147483647 = true) (hq : 0 ≤ q ∧ q ≤ 65535) (hc : fits cn = true) :
    decS (encS k r i n ck a b cn p q) = [k, r, i, n, 0, 0, 0, ck, a, b, cn, p, q] := by
  obtain ⟨h1, h2, h3, h4, h5, h6⟩ := oct_of ho
  obtain ⟨n0, n1⟩ := inB_iff.1 hn
  unfold decS encS
  simp only [List.append_assoc]
  rw [(tk_app 1 (beOf (u64 k) 1) _ (beOf_len _ _)).1, (tk_app 1 (beOf (u64 k) 1) _ (beOf_len _ _)).2]
  rw [(tk_app 1 (beOf (u64 r) 1) _ (beOf_len _ _)).1, (tk_app 1 (beOf (u64 r) 1) _ (beOf_len _ _)).2]
  rw [(tk_app 1 (beOf (u64 i) 1) _ (beOf_len _ _)).1, (tk_app 1 (beOf (u64 i) 1) _ (beOf_len _ _)).2]
  rw [(tk_app 4 (beOf (u64 n) 4) _ (beOf_len _ _)).1, (tk_app 4 (beOf (u64 n) 4) _ (beOf_len _ _)).2]
  rw [(tk_app 1 (beOf (u64 ck) 1) _ (beOf_len _ _)).1, (tk_app 1 (beOf (u64 ck) 1) _ (beOf_len _ _)).2]
  rw [(tk_app 1 (beOf (u64 a) 1) _ (beOf_len _ _)).1, (tk_app 1 (beOf (u64 a) 1) _ (beOf_len _ _)).2]
  rw [(tk_app 1 (beOf (u64 b) 1) _ (beOf_len _ _)).1, (tk_app 1 (beOf (u64 b) 1) _ (beOf_len _ _)).2]
  rw [(tk_app 8 (beOf (u64 cn) 8) _ (beOf_len _ _)).1, (tk_app 8 (beOf (u64 cn) 8) _ (beOf_len _ _)).2]
  rw [(tk_app 1 (beOf (u64 p) 1) _ (beOf_len _ _)).1, (tk_app 1 (beOf (u64 p) 1) _ (beOf_len _ _)).2]
  have hlast := tk_app 2 (beOf (u64 q) 2) [] (beOf_len _ _)
  rw [List.append_nil] at hlast
  rw [hlast.1]
  rw [back_small hk.1 (by omega) (by omega), back_small h1.1 (by omega) (by omega), back_small h2.1 (by omega) (by omega), back_small n0 (by omega) (by omega), back_small h3.1 (by omega) (by omega), back_small h4.1 (by omega) (by omega), back_small h5.1 (by omega) (by omega), back_any hc, back_small h6.1 (by omega) (by omega), back_small hq.1 (by omega) (by omega)]
end Go.Proofs.YteijahcbfncebaaDoor
