/- A number of its digits, by the reference: behind a minus; all. -/
import Derived.Test.YtbdonjapcpfgiaaDoorPp7
import Derived.Deep.DeepCutAuto
import Derived.Maps.AppendAt
import Derived.Test.YtbdonjapcpfgiaaDoorRow
import Derived.Test.YtbdonjapcpfgiaaDoorOps
import Derived.RegionTactic
import Derived.BigRegion
import Derived.ChangeAlike
namespace Go.Proofs.YtbdonjapcpfgiaaDoor
set_option linter.unusedVariables false
set_option linter.unusedSimpArgs false
open Go.ChangeShapes Go.WideShapes Go.ChangeAt Go.RowKit
set_option maxHeartbeats 8000000 in
theorem pp_negw (x : ByteArray) (w : World) (h0 : 0 < x.size) (hs : x.size ≤ 140737488355328) (hx : (x[0]'h0).toNat = 45) : Calls Tryd.prog 28 #[.string x] w fun e w' => PPE x e ∧ Below w.heap.size w w' := by
  have hx2 : (((x[0]'h0).toNat : Int) == 45) = true := by rw [hx]; rfl
  have hx3 : (((x[0]'h0).toNat : Int) != 45) = false := by rw [hx]; rfl
  have hxi : ((x[0]'h0).toNat : Int) = 45 := by rw [hx]; rfl
  have HF := Lib.hid (pp_dig h0 (Or.inl (by rw [hx]; decide)) 0 (by decide))
  obtain ⟨D, hD⟩ : ∃ D, D = x.extract 1 x.size := ⟨_, rfl⟩
  have hDs : D.size = x.size - 1 := by rw [hD, ByteArray.size_extract]; omega
  have HD := Lib.hid hD
  by_cases hz : D.size = 0
  · have he : D.toList.isEmpty = true := by
      rw [ByteArray.toList_eq, List.isEmpty_iff, ← List.length_eq_zero_iff, Array.length_toList]
      exact hz
    clear hD hx
    go_enter Tryd.func28, Tryd.ntmps28
    go_upto_region 4 with fail
    rw [← HD.out]
    clear HD
    go_wp2_with fail
    go_ret2
    exact ⟨⟨_, _, rfl, HF.out⟩, Below.refl _ _⟩
  · have he : D.toList.isEmpty = false := by
      cases h : D.toList with
      | nil => rw [ByteArray.toList_eq] at h; have := congrArg List.length h; rw [Array.length_toList] at this; exact absurd this hz
      | cons a b => rfl
    by_cases h19 : 19 < D.size
    · have h19b : 19 < (D.size : Int) := by omega
      clear hD hx
      go_enter Tryd.func28, Tryd.ntmps28
      go_upto_region 4 with fail
      rw [← HD.out]
      clear HD
      go_wp2_with fail
      go_ret2
      exact ⟨⟨_, _, rfl, HF.out⟩, Below.refl _ _⟩
    · have h19b : ¬ 19 < (D.size : Int) := by omega
      have hz0 : 0 < D.size := by omega
      have hz1 : 1 ≤ D.size := hz0
      have hz19 : D.size ≤ 19 := by omega
      have HN := Lib.hid (fun (n : Int) (hh : 1 < D.size → (D[0]'hz0).toNat ≠ 48) (h2 : x.toList ≠ [45, 48]) (H : Acc D.data.toList D.size n) => pp_neg h0 hx hD hz1 hz19 hh h2 H)
      by_cases h1 : 1 < D.size
      · have h1b : 1 < (D.size : Int) := by omega
        have hmn : (x.toList == [45, 48]) = false := by
          cases h : x.toList == [45, 48] with
          | false => rfl
          | true =>
            exfalso
            have h2 := congrArg List.length (beq_iff_eq.1 h)
            rw [ByteArray.toList_eq, Array.length_toList] at h2
            have h3 : x.size = 2 := h2
            omega
        have hmn2 : x.toList ≠ [45, 48] := fun e => by rw [e] at hmn; cases hmn
        by_cases hd : (D[0]'hz0).toNat = 48
        · have hdb : (((D[0]'hz0).toNat : Int) == 48) = true := by rw [hd]; rfl
          clear hD hx HN
          go_enter Tryd.func28, Tryd.ntmps28
          go_upto_region 4 with fail
          rw [← HD.out]
          clear HD
          go_wp2_with fail
          go_ret2
          exact ⟨⟨_, _, rfl, HF.out⟩, Below.refl _ _⟩
        · have hdb : (((D[0]'hz0).toNat : Int) == 48) = false := by simp; omega
          have HN := Lib.hid (fun n => HN.out n (fun _ => hd) hmn2)
          clear hd hD hx hmn2
          by_cases h9 : D.size = 19
          · have h9b : ((D.size : Int) == 19) = true := by simp; omega
            cases hbl : Op.bytesLess D.toList [57, 50, 50, 51, 51, 55, 50, 48, 51, 54, 56, 53, 52, 55, 55, 53, 56, 48, 56]
            · cases hbe : D.toList == [57, 50, 50, 51, 51, 55, 50, 48, 51, 54, 56, 53, 52, 55, 55, 53, 56, 48, 56]
              · skip
                go_enter Tryd.func28, Tryd.ntmps28
                go_upto_region 4 with fail
                rw [← HD.out]
                clear HD
                go_wp2_with fail
                go_ret2
                exact ⟨⟨_, _, rfl, HF.out⟩, Below.refl _ _⟩
              · skip
                go_enter Tryd.func28, Tryd.ntmps28
                go_upto_region 4 with fail
                rw [← HD.out]
                clear HD
                go_upto_region 8 with fail
                clear hbe hbl
                go_loopg [6, 7] D.size (fun g s6 s7 wr => ∃ (i : Nat) (n : Int), g + i = D.size ∧ s6 = .int .i64 n ∧ s7 = .int .i64 i ∧ Hid (Acc D.data.toList i n) ∧ w = wr)
                case atStart => exact ⟨0, 0, rfl, rfl, rfl, Lib.hid (Acc.zero _), rfl⟩
                case round =>
                  obtain ⟨i, n, hqi, rfl, rfl, HA, rfl⟩ := hrel
                  by_cases hi : i < D.size
                  · have hii : (i : Int) < D.size := by omega
                    have hi0 : (0 : Int) ≤ i := by omega
                    by_cases c1 : (D[i]'hi).toNat < 48
                    · have HP := Lib.hid (HF.out)
                      have c1b : ((D[i]'hi).toNat : Int) < 48 := by omega
                      clear c1
                      go_wp2_with fail
                      go_ret2
                      exact ⟨⟨_, _, rfl, HP.out⟩, Below.refl _ _⟩
                    · by_cases c2 : 57 < (D[i]'hi).toNat
                      · have HP := Lib.hid (HF.out)
                        have c1b : ¬ ((D[i]'hi).toNat : Int) < 48 := by omega
                        have c2b : 57 < ((D[i]'hi).toNat : Int) := by omega
                        clear c1 c2
                        go_wp2_with fail
                        go_ret2
                        exact ⟨⟨_, _, rfl, HP.out⟩, Below.refl _ _⟩
                      · have HS := Lib.hid (HA.out.step (by rw [Array.length_toList]; exact hi) (by rw [at_list hi]; omega) (by rw [at_list hi]; omega))
                        rw [at_list hi] at HS
                        have c1b : ¬ ((D[i]'hi).toNat : Int) < 48 := by omega
                        have c2b : ¬ 57 < ((D[i]'hi).toNat : Int) := by omega
                        have HW : Hid (((D[i]'hi).toNat : Int) - 48 = (((D[i]'hi).toNat : Int) - 48) % 256) := Lib.hid (by omega)
                        clear c1 c2 HA
                        go_wp2_with fail
                        go_roundg (gk - 1)
                        case measure => omega
                        case rel => exact ⟨i + 1, _, by omega, rfl, by go_num, HS, rfl⟩
                  · have hie : i = D.size := by omega
                    subst hie
                    have hii : ¬ ((D.size : Nat) : Int) < D.size := by omega
                    clear hi
                    have HY := Lib.hid (HN.out _ HA.out)
                    go_wp2_with fail
                    go_ret2
                    exact ⟨⟨_, _, rfl, HY.out⟩, Below.refl _ _⟩
            · skip
              go_enter Tryd.func28, Tryd.ntmps28
              go_upto_region 4 with fail
              rw [← HD.out]
              clear HD
              go_upto_region 8 with fail
              clear hbl
              go_loopg [6, 7] D.size (fun g s6 s7 wr => ∃ (i : Nat) (n : Int), g + i = D.size ∧ s6 = .int .i64 n ∧ s7 = .int .i64 i ∧ Hid (Acc D.data.toList i n) ∧ w = wr)
              case atStart => exact ⟨0, 0, rfl, rfl, rfl, Lib.hid (Acc.zero _), rfl⟩
              case round =>
                obtain ⟨i, n, hqi, rfl, rfl, HA, rfl⟩ := hrel
                by_cases hi : i < D.size
                · have hii : (i : Int) < D.size := by omega
                  have hi0 : (0 : Int) ≤ i := by omega
                  by_cases c1 : (D[i]'hi).toNat < 48
                  · have HP := Lib.hid (HF.out)
                    have c1b : ((D[i]'hi).toNat : Int) < 48 := by omega
                    clear c1
                    go_wp2_with fail
                    go_ret2
                    exact ⟨⟨_, _, rfl, HP.out⟩, Below.refl _ _⟩
                  · by_cases c2 : 57 < (D[i]'hi).toNat
                    · have HP := Lib.hid (HF.out)
                      have c1b : ¬ ((D[i]'hi).toNat : Int) < 48 := by omega
                      have c2b : 57 < ((D[i]'hi).toNat : Int) := by omega
                      clear c1 c2
                      go_wp2_with fail
                      go_ret2
                      exact ⟨⟨_, _, rfl, HP.out⟩, Below.refl _ _⟩
                    · have HS := Lib.hid (HA.out.step (by rw [Array.length_toList]; exact hi) (by rw [at_list hi]; omega) (by rw [at_list hi]; omega))
                      rw [at_list hi] at HS
                      have c1b : ¬ ((D[i]'hi).toNat : Int) < 48 := by omega
                      have c2b : ¬ 57 < ((D[i]'hi).toNat : Int) := by omega
                      have HW : Hid (((D[i]'hi).toNat : Int) - 48 = (((D[i]'hi).toNat : Int) - 48) % 256) := Lib.hid (by omega)
                      clear c1 c2 HA
                      go_wp2_with fail
                      go_roundg (gk - 1)
                      case measure => omega
                      case rel => exact ⟨i + 1, _, by omega, rfl, by go_num, HS, rfl⟩
                · have hie : i = D.size := by omega
                  subst hie
                  have hii : ¬ ((D.size : Nat) : Int) < D.size := by omega
                  clear hi
                  have HY := Lib.hid (HN.out _ HA.out)
                  go_wp2_with fail
                  go_ret2
                  exact ⟨⟨_, _, rfl, HY.out⟩, Below.refl _ _⟩
          · have h9b : ((D.size : Int) == 19) = false := by simp; omega
            go_enter Tryd.func28, Tryd.ntmps28
            go_upto_region 4 with fail
            rw [← HD.out]
            clear HD
            go_upto_region 8 with fail
            go_loopg [6, 7] D.size (fun g s6 s7 wr => ∃ (i : Nat) (n : Int), g + i = D.size ∧ s6 = .int .i64 n ∧ s7 = .int .i64 i ∧ Hid (Acc D.data.toList i n) ∧ w = wr)
            case atStart => exact ⟨0, 0, rfl, rfl, rfl, Lib.hid (Acc.zero _), rfl⟩
            case round =>
              obtain ⟨i, n, hqi, rfl, rfl, HA, rfl⟩ := hrel
              by_cases hi : i < D.size
              · have hii : (i : Int) < D.size := by omega
                have hi0 : (0 : Int) ≤ i := by omega
                by_cases c1 : (D[i]'hi).toNat < 48
                · have HP := Lib.hid (HF.out)
                  have c1b : ((D[i]'hi).toNat : Int) < 48 := by omega
                  clear c1
                  go_wp2_with fail
                  go_ret2
                  exact ⟨⟨_, _, rfl, HP.out⟩, Below.refl _ _⟩
                · by_cases c2 : 57 < (D[i]'hi).toNat
                  · have HP := Lib.hid (HF.out)
                    have c1b : ¬ ((D[i]'hi).toNat : Int) < 48 := by omega
                    have c2b : 57 < ((D[i]'hi).toNat : Int) := by omega
                    clear c1 c2
                    go_wp2_with fail
                    go_ret2
                    exact ⟨⟨_, _, rfl, HP.out⟩, Below.refl _ _⟩
                  · have HS := Lib.hid (HA.out.step (by rw [Array.length_toList]; exact hi) (by rw [at_list hi]; omega) (by rw [at_list hi]; omega))
                    rw [at_list hi] at HS
                    have c1b : ¬ ((D[i]'hi).toNat : Int) < 48 := by omega
                    have c2b : ¬ 57 < ((D[i]'hi).toNat : Int) := by omega
                    have HW : Hid (((D[i]'hi).toNat : Int) - 48 = (((D[i]'hi).toNat : Int) - 48) % 256) := Lib.hid (by omega)
                    clear c1 c2 HA
                    go_wp2_with fail
                    go_roundg (gk - 1)
                    case measure => omega
                    case rel => exact ⟨i + 1, _, by omega, rfl, by go_num, HS, rfl⟩
              · have hie : i = D.size := by omega
                subst hie
                have hii : ¬ ((D.size : Nat) : Int) < D.size := by omega
                clear hi
                have HY := Lib.hid (HN.out _ HA.out)
                go_wp2_with fail
                go_ret2
                exact ⟨⟨_, _, rfl, HY.out⟩, Below.refl _ _⟩
      · have h1b : ¬ 1 < (D.size : Int) := by omega
        have h9b : ((D.size : Int) == 19) = false := by simp; omega
        cases hmn : x.toList == [45, 48]
        · have hmn2 : x.toList ≠ [45, 48] := fun e => by rw [e] at hmn; cases hmn
          have HN := Lib.hid (fun n => HN.out n (fun h => absurd h h1) hmn2)
          clear hD hx hmn2
          go_enter Tryd.func28, Tryd.ntmps28
          go_upto_region 4 with fail
          rw [← HD.out]
          clear HD
          go_upto_region 8 with fail
          go_loopg [6, 7] D.size (fun g s6 s7 wr => ∃ (i : Nat) (n : Int), g + i = D.size ∧ s6 = .int .i64 n ∧ s7 = .int .i64 i ∧ Hid (Acc D.data.toList i n) ∧ w = wr)
          case atStart => exact ⟨0, 0, rfl, rfl, rfl, Lib.hid (Acc.zero _), rfl⟩
          case round =>
            obtain ⟨i, n, hqi, rfl, rfl, HA, rfl⟩ := hrel
            by_cases hi : i < D.size
            · have hii : (i : Int) < D.size := by omega
              have hi0 : (0 : Int) ≤ i := by omega
              by_cases c1 : (D[i]'hi).toNat < 48
              · have HP := Lib.hid (HF.out)
                have c1b : ((D[i]'hi).toNat : Int) < 48 := by omega
                clear c1
                go_wp2_with fail
                go_ret2
                exact ⟨⟨_, _, rfl, HP.out⟩, Below.refl _ _⟩
              · by_cases c2 : 57 < (D[i]'hi).toNat
                · have HP := Lib.hid (HF.out)
                  have c1b : ¬ ((D[i]'hi).toNat : Int) < 48 := by omega
                  have c2b : 57 < ((D[i]'hi).toNat : Int) := by omega
                  clear c1 c2
                  go_wp2_with fail
                  go_ret2
                  exact ⟨⟨_, _, rfl, HP.out⟩, Below.refl _ _⟩
                · have HS := Lib.hid (HA.out.step (by rw [Array.length_toList]; exact hi) (by rw [at_list hi]; omega) (by rw [at_list hi]; omega))
                  rw [at_list hi] at HS
                  have c1b : ¬ ((D[i]'hi).toNat : Int) < 48 := by omega
                  have c2b : ¬ 57 < ((D[i]'hi).toNat : Int) := by omega
                  have HW : Hid (((D[i]'hi).toNat : Int) - 48 = (((D[i]'hi).toNat : Int) - 48) % 256) := Lib.hid (by omega)
                  clear c1 c2 HA
                  go_wp2_with fail
                  go_roundg (gk - 1)
                  case measure => omega
                  case rel => exact ⟨i + 1, _, by omega, rfl, by go_num, HS, rfl⟩
            · have hie : i = D.size := by omega
              subst hie
              have hii : ¬ ((D.size : Nat) : Int) < D.size := by omega
              clear hi
              have HY := Lib.hid (HN.out _ HA.out)
              go_wp2_with fail
              go_ret2
              exact ⟨⟨_, _, rfl, HY.out⟩, Below.refl _ _⟩
        · clear hD hx HN
          go_enter Tryd.func28, Tryd.ntmps28
          go_upto_region 4 with fail
          rw [← HD.out]
          clear HD
          go_wp2_with fail
          go_ret2
          exact ⟨⟨_, _, rfl, HF.out⟩, Below.refl _ _⟩
theorem pp_zero (x : ByteArray) (w : World) (h0 : x.size = 0) : Calls Tryd.prog 28 #[.string x] w fun e w' => PPE x e ∧ Below w.heap.size w w' := by
  have HF := Lib.hid (pp_size (x := x) (Or.inl h0))
  have he : x.toList.isEmpty = true := by
    rw [ByteArray.toList_eq, List.isEmpty_iff, ← List.length_eq_zero_iff, Array.length_toList]
    exact h0
  go_enter Tryd.func28, Tryd.ntmps28
  go_wp2_with fail
  go_ret2
  exact ⟨⟨_, _, rfl, HF.out⟩, Below.refl _ _⟩
theorem pp_any (x : ByteArray) (w : World) (hs : x.size ≤ 140737488355328) : Calls Tryd.prog 28 #[.string x] w fun e w' => PPE x e ∧ Below w.heap.size w w' := by
  by_cases h0 : 0 < x.size
  · by_cases hx : (x[0]'h0).toNat = 45
    · exact pp_negw x w h0 hs hx
    · exact pp_nonneg x w h0 hs hx
  · exact pp_zero x w (by omega)
end Go.Proofs.YtbdonjapcpfgiaaDoor
