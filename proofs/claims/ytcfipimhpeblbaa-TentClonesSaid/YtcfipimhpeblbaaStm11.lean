/- Lists of changes, joined: slices.Grow, slices.Concat. -/
import Derived.Test.YtcfipimhpeblbaaStm9
import Derived.Lib.AppendZeros
import Derived.Lib.SliceRun
import Derived.Deep.DeepCutAuto
import Derived.Maps.AppendAt
import Derived.Test.YtcfipimhpeblbaaRow
import Derived.Test.YtcfipimhpeblbaaOps
import Derived.RegionTactic
import Derived.BigRegion
import Derived.ChangeAlike
namespace Go.Proofs.Ytcfipimhpeblbaa
set_option linter.unusedVariables false
set_option linter.unusedSimpArgs false
open Go.ChangeShapes Go.WideShapes Go.ChangeAt Go.RowKit
theorem grow_nil (k : Nat) (w : World) (h0 : 1 ≤ k) (hk : k ≤ 10000) : Calls Try.prog 42 #[.slice none 0 0, .int .i64 k] w fun e w' => ∃ v, e = .returned v ∧ w'.ownsRow w.heap.size 36 9 v 0 [] ∧ Below w.heap.size w w' := by
  obtain ⟨i0, hi, hz0, hz1, hz2⟩ := info_partsP chg_infoP
  have R := Lib.run_append_nil_zeros (P := Try.prog) w 24 3 24 36 i0 (.agg #[.int .i64 0, .int .i64 0, .int .i64 0, .int .i64 0, .int .i64 0, .int .i64 0, .int .i64 0, .int .i64 0, .int .i64 0]) .i64 .i64 Try.underlying24 Try.underlying3 hi hz0 k (by omega) (by omega) (by omega) (by rw [hz2]; omega)
  have HO : Hid ((w.drew.alloc (.cells (Builtin.zeroCells ((.agg #[.int .i64 0, .int .i64 0, .int .i64 0, .int .i64 0, .int .i64 0, .int .i64 0, .int .i64 0, .int .i64 0, .int .i64 0]) : Value).cells k ++ Builtin.zeroCells ((.agg #[.int .i64 0, .int .i64 0, .int .i64 0, .int .i64 0, .int .i64 0, .int .i64 0, .int .i64 0, .int .i64 0, .int .i64 0]) : Value).cells (grownCap w k 0 36 - k)) 36)).ownsRow w.heap.size 36 9 (.slice (some ⟨w.heap.size, 0, none⟩) 0 (grownCap w k 0 36)) 0 []) := Lib.hid (by
    have hge := grownCap_ge w k 0 36
    refine ⟨rfl, .inr ⟨w.heap.size, _, _, rfl, Nat.le_refl _, heap_alloc_new w.drew _, Nat.zero_le _, grownCap_le_maxLen w k 0 36 (by simp only [maxLen]; omega), ?_, rfl⟩⟩
    simp only [Array.size_append, size_zeroCells]
    show k * 9 + (grownCap w k 0 36 - k) * 9 = _
    rw [← Nat.add_mul]
    congr 1
    omega)
  have HB := Lib.hid (((Below.refl w.heap.size w).drew).alloc (Nat.le_refl _) (.cells (Builtin.zeroCells ((.agg #[.int .i64 0, .int .i64 0, .int .i64 0, .int .i64 0, .int .i64 0, .int .i64 0, .int .i64 0, .int .i64 0, .int .i64 0]) : Value).cells k ++ Builtin.zeroCells ((.agg #[.int .i64 0, .int .i64 0, .int .i64 0, .int .i64 0, .int .i64 0, .int .i64 0, .int .i64 0, .int .i64 0, .int .i64 0]) : Value).cells (grownCap w k 0 36 - k)) 36))
  have hge := grownCap_ge w k 0 36
  generalize grownCap w k 0 36 = c2 at *
  generalize w.drew.alloc (.cells (Builtin.zeroCells ((.agg #[.int .i64 0, .int .i64 0, .int .i64 0, .int .i64 0, .int .i64 0, .int .i64 0, .int .i64 0, .int .i64 0, .int .i64 0]) : Value).cells k ++ Builtin.zeroCells ((.agg #[.int .i64 0, .int .i64 0, .int .i64 0, .int .i64 0, .int .i64 0, .int .i64 0, .int .i64 0, .int .i64 0, .int .i64 0]) : Value).cells (c2 - k)) 36) = w2 at *
  have HR := Lib.hid R
  clear R hi hz0 hz1 hz2
  have hk0 : (0 : Int) < k := by omega
  have hkn : ¬ (k : Int) < 0 := by omega
  go_enter Try.func42, Try.ntmps42
  go_wp2_with (at_builtin; refine Lib.wpList_append_run _ rfl _ _ _ _ rfl _ _ rfl rfl _ _ HR.out ?_)
  go_ret
  exact ⟨_, rfl, HO.out, HB.out⟩
def sumN (N : Nat → Nat) : Nat → Nat
  | 0 => 0
  | k + 1 => sumN N k + N k
def catL (L : Nat → List Int) : Nat → List Int
  | 0 => []
  | k + 1 => catL L k ++ L k
theorem sumN_le {N : Nat → Nat} {m : Nat} (h : ∀ k, k < m → N k ≤ 1000) : ∀ k, k ≤ m → sumN N k ≤ k * 1000
  | 0, _ => Nat.zero_le _
  | k + 1, hk => by
    have h1 := sumN_le h k (by omega)
    have h2 := h k (by omega)
    unfold sumN
    omega
set_option maxHeartbeats 4000000 in
theorem concat_any (m gs c : Nat) (A : Nat → Option Addr) (N C : Nat → Nat) (L : Nat → List Int) (w : World) (hm : m ≤ 5)
    (hg : ∀ k, k < m → w.cell? ⟨gs, k, none⟩ = some (.slice (A k) (N k) (C k))) (hS : ∀ k, k < m → Sl w (A k) (N k) 9 (ints (L k))) (hnil : ∀ k, k < m → A k = none → C k = 0) (hN : ∀ k, k < m → N k ≤ 1000) (h1 : 1 ≤ sumN N m) (hgl : gs < w.heap.size) :
    Calls Try.prog 38 #[.slice (some ⟨gs, 0, none⟩) m c] w fun e w' => ∃ v, e = .returned v ∧ w'.ownsRow w.heap.size 36 9 v (sumN N m) (ints (catL L m)) ∧ Below w.heap.size w w' := by
  obtain ⟨i0, hi, hz0, hz1, hz2⟩ := info_partsP chg_infoP
  have HG := Lib.hid hg
  have HS := Lib.hid hS
  have HNI := Lib.hid hnil
  have HN := Lib.hid hN
  have HL := Lib.hid (sumN_le hN)
  have GN := Lib.hid (fun w' => grow_nil (sumN N m) w' h1 (by have := sumN_le hN m (Nat.le_refl _); omega))
  have HI := Lib.hid hi
  clear hg hS hnil hN
  go_enter Try.func38, Try.ntmps38
  go_upto_region 3 with fail
  go_loopg [3, 11] m (fun g s3 s11 wr => ∃ (k : Nat), g + k = m ∧ s11 = .int .i64 k ∧ s3 = .int .i64 (sumN N k) ∧ w = wr)
  case atStart => exact ⟨0, rfl, rfl, rfl, rfl⟩
  case round =>
    obtain ⟨k, hqk, rfl, rfl, rfl⟩ := hrel
    by_cases hk : k < m
    · have hki : (k : Int) < m := by omega
      have hk0 : (0 : Int) ≤ k := by omega
      have hc := HG.out k hk
      have hb1 := HL.out k (by omega)
      have hb2 := HN.out k hk
      have hs : Hid ((sumN N (k + 1) : Nat) = sumN N k + N k) := Lib.hid rfl
      have hnn : ¬ ((sumN N k : Int) + N k) < 0 := by omega
      have hkm : k ≤ 5 := by omega
      go_wp2_with fail
      go_roundg (gk - 1)
      case measure => omega
      case rel => exact ⟨k + 1, by omega, by go_num, by rw [hs.out]; first | rfl | go_num | (congr 1; omega), rfl⟩
    · have hki : ¬ (k : Int) < m := by omega
      have hkm : k = m := by omega
      subst hkm
      clear hk hqk
      have hb1 := HL.out k (Nat.le_refl _)
      go_wp2_with fail
      refine (GN.out _).mono ?_
      rintro e w2 ⟨v, rfl, hown, hb⟩
      have HO := Lib.hid hown
      have HB := Lib.hid hb
      clear hown hb GN
      go_upto_region 11 with fail
      go_loopg [6, 27] k (fun g s6 s27 wr => ∃ (j : Nat) (v : Value), g + j = k ∧ s27 = .int .i64 j ∧ s6 = v ∧ Hid (wr.ownsRow w.heap.size 36 9 v (sumN N j) (ints (catL L j))) ∧ Hid (Below w.heap.size w wr))
      case atStart => exact ⟨0, v, rfl, rfl, rfl, HO, HB⟩
      case round =>
        obtain ⟨j, v, hqj, rfl, rfl, HO2, HB2⟩ := hrel
        by_cases hj : j < k
        · have hji : (j : Int) < k := by omega
          have hj0 : (0 : Int) ≤ j := by omega
          have hc := (HB2.out.cell (p := ⟨gs, j, none⟩) hgl).trans (HG.out j hj)
          have hSk := (HS.out j hj).keep HB2.out
          have hni := HNI.out j hj
          have HO1 : Hid (∀ u ∈ ints (L j), u.oneCell' = true) := Lib.hid fun u hu => ints_one hu
          have hb4 := HL.out j (by omega)
          have hb5 := HN.out j hj
          have hkk : k ≤ 5 := hm
          have hL2 : Hid (ints (catL L (j + 1)) = ints (catL L j) ++ ints (L j)) := Lib.hid (ints_appG _ _)
          have HS2 := Lib.hid hSk
          have HNI2 := Lib.hid hni
          clear hSk hni
          go_wp2_with (at_builtin; refine app_any _ _ 24 36 i0 (.agg #[.int .i64 0, .int .i64 0, .int .i64 0, .int .i64 0, .int .i64 0, .int .i64 0, .int .i64 0, .int .i64 0, .int .i64 0]) 9 72 Try.underlying24 HI.out hz0 hz1 hz2 rfl (by decide) rfl rfl rfl HO2.out rfl HS2.out HNI2.out HO1.out (by simp only [maxLen]; omega) (by omega) HB2.out.size ?_)
          intro v' w3 hown' hb'
          have HO3 : Hid (w3.ownsRow w.heap.size 36 9 v' (sumN N (j + 1)) (ints (catL L (j + 1)))) := Lib.hid (hL2.out ▸ hown')
          have HB3 := Lib.hid (HB2.out.trans hb')
          clear hown' hb' HO2 HB2 hc
          go_wp2_with fail
          go_roundg (gk - 1)
          case measure => omega
          case rel => exact ⟨j + 1, _, by omega, by go_num, rfl, HO3, HB3⟩
        · have hji : ¬ (j : Int) < k := by omega
          have hjk : j = k := by omega
          subst hjk
          go_wp2_with fail
          go_ret
          exact ⟨_, rfl, HO2.out, HB2.out⟩
end Go.Proofs.Ytcfipimhpeblbaa
