/- Frames: the reference's Get. -/
import Derived.Test.YtnlocomjmkgmkaaFrm2
import Derived.Test.YtnlocomjmkgmkaaQt
import Derived.Lib.SmallJoins
import Derived.Test.YtnlocomjmkgmkaaLaw03
import Derived.Test.YtnlocomjmkgmkaaRef02
import Derived.Test.YtnlocomjmkgmkaaOps
import Derived.RegionTactic
import Derived.BigRegion
import Derived.ChangeAlike
namespace Go.Proofs.Ytnlocomjmkgmkaa
set_option linter.unusedVariables false
set_option linter.unusedSimpArgs false
open Go.ChangeShapes Go.WideShapes Go.ChangeAt Go.RowKit
theorem rfget_short (a : Option Addr) (n c : Nat) (w : World) (h : n < 8) : Calls Try.prog 11 #[.slice a n c] w fun e w' => e = .returned (.tuple #[.slice none 0 0, .int .i64 0]) ∧ w = w' := by
  have hn : (n : Int) < 8 := by omega
  clear h
  go_enter Try.func11, Try.ntmps11
  go_wp2_with fail
  go_ret2
  exact ⟨rfl, rfl⟩
theorem num2 (bs : List UInt8) (h : 2 ≤ bs.length) : numOf (bs.take 2) = (bs.getD 0 0).toNat * 256 + (bs.getD 1 0).toNat := by
  match bs, h with
  | x :: y :: r, _ => simp [numOf]
set_option maxRecDepth 100000 in
set_option maxHeartbeats 4000000 in
theorem rfget_core (bb off n c m : Nat) (bs : List UInt8) (w : World) (h : Sl w (some ⟨bb, off, none⟩) n 1 (bcells bs)) (hn8 : 8 ≤ n) (hnc : n ≤ c) (hc : c ≤ 9223372036854775807) (hn47 : n ≤ 140737488355328) (hm : numOf (bs.take 2) = m) (v : Bool)
    (hv : v = (decide (1 ≤ m) && decide (m ≤ 4096) && decide (m + 7 ≤ n) && decide (frameOf ((bs.drop 2).take m) = bs.take (m + 7)))) :
    Calls Try.prog 11 #[.slice (some ⟨bb, off, none⟩) n c] w fun e w' => (v = true → e = .returned (.tuple #[.slice (some ⟨bb, off + 2, none⟩) m (c - 2), .int .i64 (m + 7 : Nat)])) ∧ (v = false → e = .returned (.tuple #[.slice none 0 0, .int .i64 0])) ∧ Below w.heap.size w w' := by
  have hbl : bs.length = n := bsl_one h
  rw [num2 bs (by omega)] at hm
  have HS := Lib.hid h
  have HV := Lib.hid hv
  have HBL := Lib.hid hbl
  obtain ⟨_, b2, o2, e2, hblt, hcell⟩ := h.byte (by omega)
  injection e2 with e2
  injection e2 with e3 e4
  subst e3; subst e4
  have hx0 : (bs.getD 0 0).toNat < 256 := UInt8.toNat_lt _
  have hx1 : (bs.getD 1 0).toNat < 256 := UInt8.toNat_lt _
  have C0 := Lib.hid (fun w' (hb : Below w.heap.size w w') => show w'.cell? ⟨bb, off, none⟩ = some (.int .u8 ((bs.getD 0 0).toNat : Int)) from (hb.cell (p := ⟨bb, off, none⟩) hblt).trans (hcell 0 (by omega)))
  have C1 := Lib.hid (fun w' (hb : Below w.heap.size w w') => show w'.cell? ⟨bb, off + 1, none⟩ = some (.int .u8 ((bs.getD 1 0).toNat : Int)) from (hb.cell (p := ⟨bb, off + 1, none⟩) hblt).trans (hcell 1 (by omega)))
  generalize (bs.getD 0 0).toNat = x0 at *
  generalize (bs.getD 1 0).toNat = x1 at *
  have HM := Lib.hid hm
  have hx0' : (x0 : Int) < 256 := by omega
  have hx1' : (x1 : Int) < 256 := by omega
  have hn8' : ¬ (n : Int) < 8 := by omega
  have d1 : (1 : Int) < n := by omega
  have d0 : (0 : Int) < n := by omega
  clear h hm hv hbl hcell hx0 hx1
  go_enter Try.func11, Try.ntmps11
  go_upto_region 3 with fail
  refine q_begin (by kernel_rfl) (by kernel_rfl) ?_
  repeat (first
    | go_big_quiet_skip
    | ((with_reducible apply q_at (ad := ⟨bb, off, none⟩)); (· rfl); (· rfl); (· exact Try.underlying5); (· rfl); (· exact C0.out); (simp only [Act.put, List.setIfInBounds_toArray, List.set_cons_zero, List.set_cons_succ]))
    | ((with_reducible apply q_at (ad := ⟨bb, off + 1, none⟩)); (· rfl); (· rfl); (· exact Try.underlying5); (· rfl); (· exact C1.out); (simp only [Act.put, List.setIfInBounds_toArray, List.set_cons_zero, List.set_cons_succ]))
    | (go_big_quiet_want; go_big_quiet_op; (first | go_big_quiet_on | (apply Exists.intro; refine ⟨fun _ _ => rfl, ?_⟩; go_big_quiet_on))))
  refine q_end ?_
  intro w1 hb1
  have HB1 := Lib.hid hb1
  have HMI : (x0 : Int) * 256 + x1 = (m : Int) := by have := HM.out; omega
  have hml : (m : Int) < 65536 := by omega
  rw [HMI]
  clear hb1 HMI hx0' hx1' C0 C1
  by_cases k1 : 1 ≤ m ∧ m ≤ 4096
  · have k1a : ¬ (m : Int) < 1 := by omega
    have k1b : ¬ (4096 : Int) < m := by omega
    by_cases k2 : m + 7 ≤ n
    · have hlt : ¬ (n : Int) < (m : Int) + 7 := by omega
      have hlb : decide ((n : Int) < (m : Int) + 7) = false := decide_eq_false hlt
      have hkm : (decide (1 ≤ m) && decide (m ≤ 4096) && decide (m + 7 ≤ n)) = true := by rw [decide_eq_true k1.1, decide_eq_true k1.2, decide_eq_true k2]; rfl
      have HV2 := Lib.hid (show v = decide (frameOf ((bs.drop 2).take m) = bs.take (m + 7)) by rw [HV.out, hkm, Bool.true_and])
      have HSL := Lib.hid (show Sl w (some ⟨bb, off + 2, none⟩) m 1 (bcells ((bs.drop 2).take m)) from by
        have := HS.out.sub (i := 2) (k := m) (by omega) hnc
        unfold restOf at this
        rw [if_neg (by omega)] at this
        simpa [add_plain] using this)
      have HSF := Lib.hid (HS.out.front (k := m + 7) (by omega))
      have RP := Lib.hid (rfput_any (some ⟨bb, off + 2, none⟩) m (c - 2) ((bs.drop 2).take m) w1 (HSL.out.keep HB1.out) (fun h => by cases h) k1.2)
      have hc2 : ¬ c = 2 := by omega
      have h2m : (2 : Int) + m ≤ c := by omega
      have h7m : (m : Int) + 7 ≤ c := by omega
      have K1 := Lib.hid k1
      have K2 := Lib.hid k2
      generalize (bs.drop 2).take m = PL at *
      generalize bs.take (m + 7) = FB at *
      clear k1 k2 hkm HV HSL HM
      go_wp2_with fail
      refine RP.out.mono ?_
      rintro e w2 ⟨a5, c5, rfl, ho, hb⟩
      have HB2 := Lib.hid (HB1.out.trans (hb.mono HB1.out.size))
      have HS5 := Lib.hid (sl_own ho)
      have KF := Lib.hid (fun w' (hw : Below w2.heap.size w2 w') => conv_bytes (HS5.out.keep hw) c5)
      have KB := Lib.hid (fun w' (hw : Below w2.heap.size w2 w') => conv_bytes ((HSF.out.keep HB2.out).keep hw) c)
      clear ho hb RP HB1
      by_cases k5 : frameOf PL = FB
      · rw [k5] at KF
        have HT := Lib.hid (show v = true by rw [HV2.out, decide_eq_true k5])
        clear k5 HV2
        go_upto_region 7 with fail
        refine q_begin (by kernel_rfl) (by kernel_rfl) ?_
        repeat (first
          | go_big_quiet_skip
          | ((with_reducible apply q_conv); (· rfl); (· rfl); (· exact KF.out); (simp only [Act.put, List.setIfInBounds_toArray, List.set_cons_zero, List.set_cons_succ]))
          | ((with_reducible apply q_conv); (· rfl); (· rfl); (· exact KB.out); (simp only [Act.put, List.setIfInBounds_toArray, List.set_cons_zero, List.set_cons_succ]))
          | (go_big_quiet_want; go_big_quiet_op; (first | go_big_quiet_on | (apply Exists.intro; refine ⟨fun _ _ => rfl, ?_⟩; go_big_quiet_on))))
        refine q_end ?_
        intro w3 hb
        have HB3 := Lib.hid (HB2.out.trans (hb.mono HB2.out.size))
        clear hb
        go_wp2_with fail
        go_ret2
        have e1 : 2 + m - 2 = m := by omega
        exact ⟨fun _ => (congrArg (fun z => Ending.returned (.tuple #[.slice (some ⟨bb, off + 2, none⟩) z (c - 2), .int .i64 ((m : Int) + 7)])) e1), fun h => absurd h (by rw [HT.out]; decide), HB3.out⟩
      · have HF := Lib.hid (show v = false by rw [HV2.out, decide_eq_false k5])
        have hxy : (frameOf PL == FB) = false := by simpa using k5
        generalize frameOf PL = FX at *
        clear k5 HV2
        go_upto_region 7 with fail
        refine q_begin (by kernel_rfl) (by kernel_rfl) ?_
        repeat (first
          | go_big_quiet_skip
          | ((with_reducible apply q_conv); (· rfl); (· rfl); (· exact KF.out); (simp only [Act.put, List.setIfInBounds_toArray, List.set_cons_zero, List.set_cons_succ]))
          | ((with_reducible apply q_conv); (· rfl); (· rfl); (· exact KB.out); (simp only [Act.put, List.setIfInBounds_toArray, List.set_cons_zero, List.set_cons_succ]))
          | (go_big_quiet_want; go_big_quiet_op; (first | go_big_quiet_on | (apply Exists.intro; refine ⟨fun _ _ => rfl, ?_⟩; go_big_quiet_on))))
        refine q_end ?_
        intro w3 hb
        have HB3 := Lib.hid (HB2.out.trans (hb.mono HB2.out.size))
        clear hb
        go_wp2_with fail
        go_ret2
        exact ⟨fun h => absurd h (by rw [HF.out]; decide), fun _ => rfl, HB3.out⟩
    · have HF := Lib.hid (show v = false by rw [HV.out, show decide (m + 7 ≤ n) = false from decide_eq_false k2]; simp)
      have hlt : (n : Int) < (m : Int) + 7 := by omega
      clear k1 k2
      go_wp2_with fail
      go_ret2
      exact ⟨fun h => absurd h (by rw [HF.out]; decide), fun _ => rfl, HB1.out⟩
  · have HF := Lib.hid (show v = false by
      rw [HV.out]
      rcases (show ¬ 1 ≤ m ∨ ¬ m ≤ 4096 by omega) with h | h
      · rw [decide_eq_false h]; simp
      · rw [show decide (m ≤ 4096) = false from decide_eq_false h]; simp)
    by_cases k0 : (m : Int) < 1
    · clear k1
      go_wp2_with fail
      go_ret2
      exact ⟨fun h => absurd h (by rw [HF.out]; decide), fun _ => rfl, HB1.out⟩
    · have k4 : (4096 : Int) < m := by omega
      clear k1
      go_wp2_with fail
      go_ret2
      exact ⟨fun h => absurd h (by rw [HF.out]; decide), fun _ => rfl, HB1.out⟩
end Go.Proofs.Ytnlocomjmkgmkaa
