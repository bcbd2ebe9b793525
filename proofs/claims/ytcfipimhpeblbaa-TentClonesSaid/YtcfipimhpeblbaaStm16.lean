/- Lists of changes: slices.Delete of one, stamp.Without. -/
import Derived.Test.YtcfipimhpeblbaaStm15
import Derived.Test.YtcfipimhpeblbaaStm8
import Derived.Deep.DeepCutAuto
import Derived.Maps.AppendAt
import Derived.Test.YtcfipimhpeblbaaRow
import Derived.Test.YtcfipimhpeblbaaOps
import Derived.RegionTactic
import Derived.BigRegion
import Derived.ChangeAlike
namespace Go.Proofs.Ytcfipimhpeblbaa
set_option linter.unusedVariables false
set_option linter.unusedSimpArgs false
open Go.ChangeShapes Go.WideShapes Go.ChangeAt Go.RowKit
theorem own_at {w : World} {B sz g n c : Nat} {e : TypeId} {xs : List Value} (h : w.ownsRow B e sz (.slice (some ⟨g, 0, none⟩) n c) n xs) : ∃ T, Blk w g (xs ++ T) e ∧ (xs ++ T).length = c * sz := by
  rcases h.2 with ⟨he, _⟩ | ⟨g9, c9, cur, he, _, hB9, hnc9, hcm9, hsz9, htk9⟩
  · cases he
  · cases he
    have hcur : xs ++ cur.toList.drop (n * sz) = cur.toList := by
      conv => lhs; arg 1; rw [← htk9]
      exact List.take_append_drop _ _
    refine ⟨cur.toList.drop (n * sz), ?_, ?_⟩
    · rw [hcur]; exact hB9
    · rw [hcur, Array.length_toList, hsz9]
set_option maxHeartbeats 4000000 in
theorem del_any (L : List Int) (S : List Value) (g c m i : Nat) (w : World) (A : Hid (Blk w g (ints L ++ S) 36)) (hL : L.length = (m + 1) * 9) (him : i ≤ m) (hm : m ≤ 1000) (hc : m + 1 ≤ c) (hcm : c ≤ maxLen) (hS : Hid ((ints L ++ S).length = c * 9)) :
    Calls Try.prog 35 #[.slice (some ⟨g, 0, none⟩) (m + 1) c, .int .i64 i, .int .i64 ((i : Int) + 1)] w fun e w' => e = .returned (.slice (some ⟨g, 0, none⟩) m c) ∧ Only (fun k => k = g) w w' ∧ Sl w' (some ⟨g, 0, none⟩) m 9 (ints (L.take (i * 9) ++ L.drop ((i + 1) * 9))) := by
  have A1 := A
  obtain ⟨i0, hi0, hz0, hz1, hz2⟩ := info_partsP chg_infoP
  have htk : (ints L ++ S).toArray.toList.take (i * 9) = ints (L.take (i * 9)) := by
    show (ints L ++ S).take (i * 9) = _
    rw [List.take_append_of_le_length (by rw [ints_len, hL]; omega)]
    unfold ints
    rw [List.map_take]
  have hiI : (i : Int) ≤ m := by omega
  have hi00 : (0 : Int) ≤ i := by omega
  have hmI : (m : Int) + 1 ≤ c := by omega
  have hiC : (i : Int) ≤ c := by omega
  by_cases hcut : c = i + 1
  · have him2 : i = m := by omega
    have hcell : ∀ wD, Blk wD g (ints L ++ S) 36 → ∀ (j : Nat) (u : Value), (ints (L.drop ((i + 1) * 9)))[j]? = some u → wD.cell? ((⟨g, 0, none⟩ : Addr).add j) = some u := fun wD hA j u hu => by
      have : (L.drop ((i + 1) * 9)).length = 0 := by rw [List.length_drop, hL]; omega
      rw [List.eq_nil_of_length_eq_zero this] at hu
      cases hu
    subst hcut
    have e1 : i = m := him2
    subst e1
    clear him2
    have APP : Hid (∀ wD : World, Blk wD g (ints L ++ S) 36 → ∃ w3, (Builtin.append_ #[24, 24] 24 #[.slice (some ⟨g, 0, none⟩) i (i + 1), .slice (some ⟨g, 0, none⟩) 0 0]).run Try.prog wD = .ok (.slice (some ⟨g, 0, none⟩) i (i + 1)) w3 ∧ w3.ownsRow 0 36 9 (.slice (some ⟨g, 0, none⟩) i (i + 1)) i (ints (L.take (i * 9)) ++ ints (L.drop ((i + 1) * 9))) ∧ wD.grownBy w3 (some g)) := Lib.hid (fun wD hA => by
      have hown : wD.ownsRow 0 36 9 (.slice (some ⟨g, 0, none⟩) i (i + 1)) i (ints (L.take (i * 9))) := ⟨by rw [ints_len, List.length_take, hL]; omega, Or.inr ⟨g, (i + 1), (ints L ++ S).toArray, rfl, Nat.zero_le _, hA, by omega, hcm, by rw [List.size_toArray, hS.out], htk⟩⟩
      have h := run_append_own_spare wD 0 24 24 36 i0 9 Try.underlying24 hi0 hz1 g i (i + 1) (ints (L.take (i * 9))) hown ⟨g, 0, none⟩ 0 0 (ints (L.drop ((i + 1) * 9))) (by rw [ints_len, List.length_drop, hL]; omega) (hcell wD hA) (fun u hu => ints_one hu) (by omega)
      exact h)
    clear A hcell
    go_enter Try.func35, Try.ntmps35
    go_upto_region 5 with fail
    refine held_begin (fun w' => Only (fun k => k = g) w w') 8 [false, false, false, false, false, false, false, false] (by kernel_rfl) rfl (by rfl) ?_
    have hHeld : Only (fun k => k = g) w w.drew := (Only.refl _ _).drew
    have AD := Lib.hid A1.out.drew
    refine held_take (v := ?_) 0 20 [true, false, false, false, false, false, false, false] rfl (by rfl) (by rfl) (by kernel_rfl) (by kernel_rfl) (by kernel_rfl) (by rfl) (fun _ _ _ h => h) ?_ hHeld ?_
    rotate_left
    · intro w hSw; go_simp <;> with_reducible rfl
    simp only [Act.put, List.setIfInBounds_toArray, List.set_cons_zero, List.set_cons_succ]
    refine held_take (v := ?_) 1 21 [true, true, false, false, false, false, false, false] rfl (by rfl) (by rfl) (by kernel_rfl) (by kernel_rfl) (by kernel_rfl) (by rfl) (fun _ _ _ h => h) ?_ hHeld ?_
    rotate_left
    · intro w hSw; go_simp <;> with_reducible rfl
    simp only [Act.put, List.setIfInBounds_toArray, List.set_cons_zero, List.set_cons_succ]
    refine held_take (v := .slice (some ⟨g, 0, none⟩) i (i + 1)) 2 22 [true, true, true, false, false, false, false, false] rfl (by rfl) (by rfl) (by kernel_rfl) (by kernel_rfl) (by kernel_rfl) (by rfl) (fun _ _ _ h => h) (fun w' h => by first | (go_simp; done) | (go_simp; omega) | (go_simp <;> rfl)) hHeld ?_
    simp only [Act.put, List.setIfInBounds_toArray, List.set_cons_zero, List.set_cons_succ]
    refine held_take (v := ?_) 3 23 [true, true, true, true, false, false, false, false] rfl (by rfl) (by rfl) (by kernel_rfl) (by kernel_rfl) (by kernel_rfl) (by rfl) (fun _ _ _ h => h) ?_ hHeld ?_
    rotate_left
    · intro w hSw; go_simp <;> with_reducible rfl
    simp only [Act.put, List.setIfInBounds_toArray, List.set_cons_zero, List.set_cons_succ]
    refine held_take (v := ?_) 4 24 [true, true, true, true, true, false, false, false] rfl (by rfl) (by rfl) (by kernel_rfl) (by kernel_rfl) (by kernel_rfl) (by rfl) (fun _ _ _ h => h) ?_ hHeld ?_
    rotate_left
    · intro w hSw; go_simp <;> with_reducible rfl
    simp only [Act.put, List.setIfInBounds_toArray, List.set_cons_zero, List.set_cons_succ]
    refine held_take (v := .slice (some ⟨g, 0, none⟩) 0 0) 5 25 [true, true, true, true, true, true, false, false] rfl (by rfl) (by rfl) (by kernel_rfl) (by kernel_rfl) (by kernel_rfl) (by rfl) (fun _ _ _ h => h) (fun w' h => by first | (go_simp; done) | (go_simp; omega) | (go_simp <;> rfl)) hHeld ?_
    simp only [Act.put, List.setIfInBounds_toArray, List.set_cons_zero, List.set_cons_succ]
    generalize w.drew = wD at *
    obtain ⟨w3, hr, hown3, hgr⟩ := APP.out wD AD.out
    refine held_one 6 (by kernel_rfl) ?_
    refine op_value (v := .slice (some ⟨g, 0, none⟩) i (i + 1)) 26 [true, true, true, true, true, true, true, false] rfl (by rfl) (by rfl) (by rfl) (run_op_app2 rfl rfl rfl hr) (hHeld.trans (ofGrown hgr)) fun hHeld => ?_
    simp only [Act.put, List.setIfInBounds_toArray, List.set_cons_zero, List.set_cons_succ]
    refine held_take (v := ?_) 7 0 [true, true, true, true, true, true, true, true] rfl (by rfl) (by rfl) (by kernel_rfl) (by kernel_rfl) (by kernel_rfl) (by rfl) (fun _ _ _ h => h) ?_ hHeld ?_
    rotate_left
    · intro w hSw; go_simp <;> with_reducible rfl
    simp only [Act.put, List.setIfInBounds_toArray, List.set_cons_zero, List.set_cons_succ]
    refine held_done (by kernel_rfl) ?_
    obtain ⟨T, hB9, hlT⟩ := own_at hown3
    have HB9 := Lib.hid hB9
    have HT : Hid (i * 9 + 9 ≤ (ints (L.take (i * 9)) ++ ints (L.drop ((i + 1) * 9)) ++ T).length) := Lib.hid (by rw [hlT]; omega)
    have HX : Hid ((ints (L.take (i * 9)) ++ ints (L.drop ((i + 1) * 9))).length = i * 9) := Lib.hid hown3.1
    have HO := Lib.hid hHeld
    clear hHeld hB9 hlT hown3 hgr hr APP AD htk
    have clr := run_clear9 (ty := 0) (c := 1) HB9.out (i * 9) HT.out
    have SF := Lib.hid (Blk.setAt (ints (List.replicate 9 0)) (i * 9) _ _ HB9.out (by rw [ints_len, List.length_replicate]; exact HT.out))
    go_wp2_with fail
    go_ret
    refine ⟨rfl, HO.out.setCells rfl _ _, ?_⟩
    have hSF := SF.out
    rw [List.take_left' HX.out, List.append_assoc] at hSF
    rw [ints_appG]
    exact sl_pre hSF HX.out
  · have hcell : ∀ wD, Blk wD g (ints L ++ S) 36 → ∀ (j : Nat) (u : Value), (ints (L.drop ((i + 1) * 9)))[j]? = some u → wD.cell? ((⟨g, (i + 1) * 9, none⟩ : Addr).add j) = some u := fun wD hA j u hu => by
      rw [add_plain, hA.cell, List.getElem?_append_left (by
        have : j < (ints (L.drop ((i + 1) * 9))).length := (List.getElem?_eq_some_iff.1 hu).1
        rw [ints_len, List.length_drop] at this
        rw [ints_len]; omega)]
      unfold ints at hu ⊢
      rw [List.map_drop, List.getElem?_drop] at hu
      exact hu
    have hcutI : ¬ (c : Int) = (i : Int) + 1 := by omega
    have APP : Hid (∀ wD : World, Blk wD g (ints L ++ S) 36 → ∃ w3, (Builtin.append_ #[24, 24] 24 #[.slice (some ⟨g, 0, none⟩) i c, .slice (some ⟨g, (i + 1) * 9, none⟩) (m - i) (c - (i + 1))]).run Try.prog wD = .ok (.slice (some ⟨g, 0, none⟩) m c) w3 ∧ w3.ownsRow 0 36 9 (.slice (some ⟨g, 0, none⟩) m c) m (ints (L.take (i * 9)) ++ ints (L.drop ((i + 1) * 9))) ∧ wD.grownBy w3 (some g)) := Lib.hid (fun wD hA => by
      have hown : wD.ownsRow 0 36 9 (.slice (some ⟨g, 0, none⟩) i c) i (ints (L.take (i * 9))) := ⟨by rw [ints_len, List.length_take, hL]; omega, Or.inr ⟨g, c, (ints L ++ S).toArray, rfl, Nat.zero_le _, hA, by omega, hcm, by rw [List.size_toArray, hS.out], htk⟩⟩
      have h := run_append_own_spare wD 0 24 24 36 i0 9 Try.underlying24 hi0 hz1 g i c (ints (L.take (i * 9))) hown ⟨g, (i + 1) * 9, none⟩ (m - i) (c - (i + 1)) (ints (L.drop ((i + 1) * 9))) (by rw [ints_len, List.length_drop, hL]; omega) (hcell wD hA) (fun u hu => ints_one hu) (by omega)
      rw [show i + (m - i) = m by omega] at h
      exact h)
    clear A hcell
    go_enter Try.func35, Try.ntmps35
    go_upto_region 5 with fail
    refine held_begin (fun w' => Only (fun k => k = g) w w') 8 [false, false, false, false, false, false, false, false] (by kernel_rfl) rfl (by rfl) ?_
    have hHeld : Only (fun k => k = g) w w.drew := (Only.refl _ _).drew
    have AD := Lib.hid A1.out.drew
    refine held_take (v := ?_) 0 20 [true, false, false, false, false, false, false, false] rfl (by rfl) (by rfl) (by kernel_rfl) (by kernel_rfl) (by kernel_rfl) (by rfl) (fun _ _ _ h => h) ?_ hHeld ?_
    rotate_left
    · intro w hSw; go_simp <;> with_reducible rfl
    simp only [Act.put, List.setIfInBounds_toArray, List.set_cons_zero, List.set_cons_succ]
    refine held_take (v := ?_) 1 21 [true, true, false, false, false, false, false, false] rfl (by rfl) (by rfl) (by kernel_rfl) (by kernel_rfl) (by kernel_rfl) (by rfl) (fun _ _ _ h => h) ?_ hHeld ?_
    rotate_left
    · intro w hSw; go_simp <;> with_reducible rfl
    simp only [Act.put, List.setIfInBounds_toArray, List.set_cons_zero, List.set_cons_succ]
    refine held_take (v := .slice (some ⟨g, 0, none⟩) i c) 2 22 [true, true, true, false, false, false, false, false] rfl (by rfl) (by rfl) (by kernel_rfl) (by kernel_rfl) (by kernel_rfl) (by rfl) (fun _ _ _ h => h) (fun w' h => by first | (go_simp; done) | (go_simp; omega) | (go_simp <;> rfl)) hHeld ?_
    simp only [Act.put, List.setIfInBounds_toArray, List.set_cons_zero, List.set_cons_succ]
    refine held_take (v := ?_) 3 23 [true, true, true, true, false, false, false, false] rfl (by rfl) (by rfl) (by kernel_rfl) (by kernel_rfl) (by kernel_rfl) (by rfl) (fun _ _ _ h => h) ?_ hHeld ?_
    rotate_left
    · intro w hSw; go_simp <;> with_reducible rfl
    simp only [Act.put, List.setIfInBounds_toArray, List.set_cons_zero, List.set_cons_succ]
    refine held_take (v := ?_) 4 24 [true, true, true, true, true, false, false, false] rfl (by rfl) (by rfl) (by kernel_rfl) (by kernel_rfl) (by kernel_rfl) (by rfl) (fun _ _ _ h => h) ?_ hHeld ?_
    rotate_left
    · intro w hSw; go_simp <;> with_reducible rfl
    simp only [Act.put, List.setIfInBounds_toArray, List.set_cons_zero, List.set_cons_succ]
    refine held_take (v := .slice (some ⟨g, (i + 1) * 9, none⟩) (m - i) (c - (i + 1))) 5 25 [true, true, true, true, true, true, false, false] rfl (by rfl) (by rfl) (by kernel_rfl) (by kernel_rfl) (by kernel_rfl) (by rfl) (fun _ _ _ h => h) (fun w' h => by first | (go_simp; done) | (go_simp; omega) | (go_simp <;> rfl)) hHeld ?_
    simp only [Act.put, List.setIfInBounds_toArray, List.set_cons_zero, List.set_cons_succ]
    generalize w.drew = wD at *
    obtain ⟨w3, hr, hown3, hgr⟩ := APP.out wD AD.out
    refine held_one 6 (by kernel_rfl) ?_
    refine op_value (v := .slice (some ⟨g, 0, none⟩) m c) 26 [true, true, true, true, true, true, true, false] rfl (by rfl) (by rfl) (by rfl) (run_op_app2 rfl rfl rfl hr) (hHeld.trans (ofGrown hgr)) fun hHeld => ?_
    simp only [Act.put, List.setIfInBounds_toArray, List.set_cons_zero, List.set_cons_succ]
    refine held_take (v := ?_) 7 0 [true, true, true, true, true, true, true, true] rfl (by rfl) (by rfl) (by kernel_rfl) (by kernel_rfl) (by kernel_rfl) (by rfl) (fun _ _ _ h => h) ?_ hHeld ?_
    rotate_left
    · intro w hSw; go_simp <;> with_reducible rfl
    simp only [Act.put, List.setIfInBounds_toArray, List.set_cons_zero, List.set_cons_succ]
    refine held_done (by kernel_rfl) ?_
    obtain ⟨T, hB9, hlT⟩ := own_at hown3
    have HB9 := Lib.hid hB9
    have HT : Hid (m * 9 + 9 ≤ (ints (L.take (i * 9)) ++ ints (L.drop ((i + 1) * 9)) ++ T).length) := Lib.hid (by rw [hlT]; omega)
    have HX : Hid ((ints (L.take (i * 9)) ++ ints (L.drop ((i + 1) * 9))).length = m * 9) := Lib.hid hown3.1
    have HO := Lib.hid hHeld
    clear hHeld hB9 hlT hown3 hgr hr APP AD htk
    have clr := run_clear9 (ty := 0) (c := c - m) HB9.out (m * 9) HT.out
    have SF := Lib.hid (Blk.setAt (ints (List.replicate 9 0)) (m * 9) _ _ HB9.out (by rw [ints_len, List.length_replicate]; exact HT.out))
    go_wp2_with fail
    go_ret
    refine ⟨rfl, HO.out.setCells rfl _ _, ?_⟩
    have hSF := SF.out
    rw [List.take_left' HX.out, List.append_assoc] at hSF
    rw [ints_appG]
    exact sl_pre hSF HX.out
end Go.Proofs.Ytcfipimhpeblbaa
