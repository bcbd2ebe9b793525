/- A number of its digits, by the reference: the walk. -/
import Derived.Test.YtbdonjapcpfgiaaDoorPp6
import Derived.Laws.Cover1
import Derived.Deep.DeepCutAuto
import Derived.Maps.AppendAt
import Derived.Test.YtbdonjapcpfgiaaDoorRow
import Derived.Test.YtbdonjapcpfgiaaDoorOps
import Derived.RegionTactic
import Derived.BigRegion
import Derived.ChangeAlike
namespace Go.Proofs.YtbdonjapcpfgiaaDoor
set_option linter.unusedVariables false
set_option linter.unusedSimpArgs false
open Go.ChangeShapes Go.WideShapes Go.ChangeAt Go.RowKit
def PPE (x : ByteArray) (e : Ending) : Prop := ∃ n ok, e = .returned (.tuple #[.int .i64 n, .bool ok]) ∧ PP x n ok
set_option maxHeartbeats 8000000 in
theorem pp_nonneg (x : ByteArray) (w : World) (h0 : 0 < x.size) (hs : x.size ≤ 140737488355328) (hx : (x[0]'h0).toNat ≠ 45) : Calls Tryd.prog 28 #[.string x] w fun e w' => PPE x e ∧ Below w.heap.size w w' := by
  have hx1 : ((x[0]'h0).toNat : Int) ≠ 45 := by omega
  have hx2 : (((x[0]'h0).toNat : Int) == 45) = false := by simpa using hx1
  have hx3 : (((x[0]'h0).toNat : Int) != 45) = true := by simpa using hx1
  have he : x.toList.isEmpty = false := by
    cases h : x.toList with
    | nil => rw [ByteArray.toList_eq] at h; have := congrArg List.length h; rw [Array.length_toList] at this; exact absurd this (by show x.size ≠ 0; omega)
    | cons a b => rfl
  have hmn : (x.toList == [45, 48]) = false := by
    cases h : x.toList == [45, 48] with
    | false => rfl
    | true =>
      exfalso
      have h2 := beq_iff_eq.1 h
      rw [ByteArray.toList_eq] at h2
      have h3 := at_list h0
      simp only [h2, List.getElem_cons_zero] at h3
      rw [← h3] at hx
      exact hx rfl
  by_cases h19 : 19 < x.size
  · have h19b : 19 < (x.size : Int) := by omega
    have HP := Lib.hid (pp_size (x := x) (Or.inr (by omega)))
    clear hmn hx h19
    go_enter Tryd.func28, Tryd.ntmps28
    go_wp2_with fail
    go_ret2
    exact ⟨⟨_, _, rfl, HP.out⟩, Below.refl _ _⟩
  · have h19b : ¬ 19 < (x.size : Int) := by omega
    by_cases h1 : 1 < x.size
    · have h1b : 1 < (x.size : Int) := by omega
      by_cases hd : (x[0]'h0).toNat = 48
      · have hdb : (((x[0]'h0).toNat : Int) == 48) = true := by rw [hd]; rfl
        have HP := Lib.hid (pp_head h1 hd)
        clear hd hmn hx h19 h1
        go_enter Tryd.func28, Tryd.ntmps28
        go_wp2_with fail
        go_ret2
        exact ⟨⟨_, _, rfl, HP.out⟩, Below.refl _ _⟩
      · have hdb : (((x[0]'h0).toNat : Int) == 48) = false := by simp; omega
        have HH : Hid (1 < x.size → (x[0]'h0).toNat ≠ 48) := Lib.hid (fun _ => hd)
        have hx45 := hx
        clear hd hx
        by_cases h9 : x.size = 19
        · have h9b : ((x.size : Int) == 19) = true := by simp; omega
          cases hbl : Op.bytesLess x.toList [57, 50, 50, 51, 51, 55, 50, 48, 51, 54, 56, 53, 52, 55, 55, 53, 56, 48, 55]
          · cases hbe : x.toList == [57, 50, 50, 51, 51, 55, 50, 48, 51, 54, 56, 53, 52, 55, 55, 53, 56, 48, 55]
            · have HP := Lib.hid (pp_size (x := x) (Or.inr (by omega)))
              go_enter Tryd.func28, Tryd.ntmps28
              go_wp2_with fail
              go_ret2
              exact ⟨⟨_, _, rfl, HP.out⟩, Below.refl _ _⟩
            · go_enter Tryd.func28, Tryd.ntmps28
              go_upto_region 8 with fail
              clear hbe hbl
              go_loopg [6, 7] x.size (fun g s6 s7 wr => ∃ (i : Nat) (n : Int), g + i = x.size ∧ s6 = .int .i64 n ∧ s7 = .int .i64 i ∧ Hid (Acc x.data.toList i n) ∧ w = wr)
              case atStart => exact ⟨0, 0, rfl, rfl, rfl, Lib.hid (Acc.zero _), rfl⟩
              case round =>
                obtain ⟨i, n, hqi, rfl, rfl, HA, rfl⟩ := hrel
                by_cases hi : i < x.size
                · have hii : (i : Int) < x.size := by omega
                  have hi0 : (0 : Int) ≤ i := by omega
                  by_cases c1 : (x[i]'hi).toNat < 48
                  · have HP := Lib.hid (pp_dig hi (Or.inl c1) 0 (by decide))
                    have c1b : ((x[i]'hi).toNat : Int) < 48 := by omega
                    clear c1
                    go_wp2_with fail
                    go_ret2
                    exact ⟨⟨_, _, rfl, HP.out⟩, Below.refl _ _⟩
                  · by_cases c2 : 57 < (x[i]'hi).toNat
                    · have HP := Lib.hid (pp_dig hi (Or.inr c2) 0 (by decide))
                      have c1b : ¬ ((x[i]'hi).toNat : Int) < 48 := by omega
                      have c2b : 57 < ((x[i]'hi).toNat : Int) := by omega
                      clear c1 c2
                      go_wp2_with fail
                      go_ret2
                      exact ⟨⟨_, _, rfl, HP.out⟩, Below.refl _ _⟩
                    · have HS := Lib.hid (HA.out.step (by rw [Array.length_toList]; exact hi) (by rw [at_list hi]; omega) (by rw [at_list hi]; omega))
                      rw [at_list hi] at HS
                      have c1b : ¬ ((x[i]'hi).toNat : Int) < 48 := by omega
                      have c2b : ¬ 57 < ((x[i]'hi).toNat : Int) := by omega
                      have HW : Hid (((x[i]'hi).toNat : Int) - 48 = (((x[i]'hi).toNat : Int) - 48) % 256) := Lib.hid (by omega)
                      clear c1 c2 HA
                      go_wp2_with fail
                      go_roundg (gk - 1)
                      case measure => omega
                      case rel => exact ⟨i + 1, _, by omega, rfl, by go_num, HS, rfl⟩
                · have hie : i = x.size := by omega
                  subst hie
                  have hii : ¬ ((x.size : Nat) : Int) < x.size := by omega
                  clear hi
                  have HY := Lib.hid (pp_yes h0 (by omega) HH.out HA.out)
                  go_wp2_with fail
                  go_ret2
                  exact ⟨⟨_, _, rfl, HY.out⟩, Below.refl _ _⟩
          · go_enter Tryd.func28, Tryd.ntmps28
            go_upto_region 8 with fail
            clear hbl
            go_loopg [6, 7] x.size (fun g s6 s7 wr => ∃ (i : Nat) (n : Int), g + i = x.size ∧ s6 = .int .i64 n ∧ s7 = .int .i64 i ∧ Hid (Acc x.data.toList i n) ∧ w = wr)
            case atStart => exact ⟨0, 0, rfl, rfl, rfl, Lib.hid (Acc.zero _), rfl⟩
            case round =>
              obtain ⟨i, n, hqi, rfl, rfl, HA, rfl⟩ := hrel
              by_cases hi : i < x.size
              · have hii : (i : Int) < x.size := by omega
                have hi0 : (0 : Int) ≤ i := by omega
                by_cases c1 : (x[i]'hi).toNat < 48
                · have HP := Lib.hid (pp_dig hi (Or.inl c1) 0 (by decide))
                  have c1b : ((x[i]'hi).toNat : Int) < 48 := by omega
                  clear c1
                  go_wp2_with fail
                  go_ret2
                  exact ⟨⟨_, _, rfl, HP.out⟩, Below.refl _ _⟩
                · by_cases c2 : 57 < (x[i]'hi).toNat
                  · have HP := Lib.hid (pp_dig hi (Or.inr c2) 0 (by decide))
                    have c1b : ¬ ((x[i]'hi).toNat : Int) < 48 := by omega
                    have c2b : 57 < ((x[i]'hi).toNat : Int) := by omega
                    clear c1 c2
                    go_wp2_with fail
                    go_ret2
                    exact ⟨⟨_, _, rfl, HP.out⟩, Below.refl _ _⟩
                  · have HS := Lib.hid (HA.out.step (by rw [Array.length_toList]; exact hi) (by rw [at_list hi]; omega) (by rw [at_list hi]; omega))
                    rw [at_list hi] at HS
                    have c1b : ¬ ((x[i]'hi).toNat : Int) < 48 := by omega
                    have c2b : ¬ 57 < ((x[i]'hi).toNat : Int) := by omega
                    have HW : Hid (((x[i]'hi).toNat : Int) - 48 = (((x[i]'hi).toNat : Int) - 48) % 256) := Lib.hid (by omega)
                    clear c1 c2 HA
                    go_wp2_with fail
                    go_roundg (gk - 1)
                    case measure => omega
                    case rel => exact ⟨i + 1, _, by omega, rfl, by go_num, HS, rfl⟩
              · have hie : i = x.size := by omega
                subst hie
                have hii : ¬ ((x.size : Nat) : Int) < x.size := by omega
                clear hi
                have HY := Lib.hid (pp_yes h0 (by omega) HH.out HA.out)
                go_wp2_with fail
                go_ret2
                exact ⟨⟨_, _, rfl, HY.out⟩, Below.refl _ _⟩
        · have h9b : ((x.size : Int) == 19) = false := by simp; omega
          go_enter Tryd.func28, Tryd.ntmps28
          go_upto_region 8 with fail
          go_loopg [6, 7] x.size (fun g s6 s7 wr => ∃ (i : Nat) (n : Int), g + i = x.size ∧ s6 = .int .i64 n ∧ s7 = .int .i64 i ∧ Hid (Acc x.data.toList i n) ∧ w = wr)
          case atStart => exact ⟨0, 0, rfl, rfl, rfl, Lib.hid (Acc.zero _), rfl⟩
          case round =>
            obtain ⟨i, n, hqi, rfl, rfl, HA, rfl⟩ := hrel
            by_cases hi : i < x.size
            · have hii : (i : Int) < x.size := by omega
              have hi0 : (0 : Int) ≤ i := by omega
              by_cases c1 : (x[i]'hi).toNat < 48
              · have HP := Lib.hid (pp_dig hi (Or.inl c1) 0 (by decide))
                have c1b : ((x[i]'hi).toNat : Int) < 48 := by omega
                clear c1
                go_wp2_with fail
                go_ret2
                exact ⟨⟨_, _, rfl, HP.out⟩, Below.refl _ _⟩
              · by_cases c2 : 57 < (x[i]'hi).toNat
                · have HP := Lib.hid (pp_dig hi (Or.inr c2) 0 (by decide))
                  have c1b : ¬ ((x[i]'hi).toNat : Int) < 48 := by omega
                  have c2b : 57 < ((x[i]'hi).toNat : Int) := by omega
                  clear c1 c2
                  go_wp2_with fail
                  go_ret2
                  exact ⟨⟨_, _, rfl, HP.out⟩, Below.refl _ _⟩
                · have HS := Lib.hid (HA.out.step (by rw [Array.length_toList]; exact hi) (by rw [at_list hi]; omega) (by rw [at_list hi]; omega))
                  rw [at_list hi] at HS
                  have c1b : ¬ ((x[i]'hi).toNat : Int) < 48 := by omega
                  have c2b : ¬ 57 < ((x[i]'hi).toNat : Int) := by omega
                  have HW : Hid (((x[i]'hi).toNat : Int) - 48 = (((x[i]'hi).toNat : Int) - 48) % 256) := Lib.hid (by omega)
                  clear c1 c2 HA
                  go_wp2_with fail
                  go_roundg (gk - 1)
                  case measure => omega
                  case rel => exact ⟨i + 1, _, by omega, rfl, by go_num, HS, rfl⟩
            · have hie : i = x.size := by omega
              subst hie
              have hii : ¬ ((x.size : Nat) : Int) < x.size := by omega
              clear hi
              have HY := Lib.hid (pp_yes h0 (by omega) HH.out HA.out)
              go_wp2_with fail
              go_ret2
              exact ⟨⟨_, _, rfl, HY.out⟩, Below.refl _ _⟩
    · have h1b : ¬ 1 < (x.size : Int) := by omega
      have h9b : ((x.size : Int) == 19) = false := by simp; omega
      have HH : Hid (1 < x.size → (x[0]'h0).toNat ≠ 48) := Lib.hid (fun h => absurd h h1)
      go_enter Tryd.func28, Tryd.ntmps28
      go_upto_region 8 with fail
      go_loopg [6, 7] x.size (fun g s6 s7 wr => ∃ (i : Nat) (n : Int), g + i = x.size ∧ s6 = .int .i64 n ∧ s7 = .int .i64 i ∧ Hid (Acc x.data.toList i n) ∧ w = wr)
      case atStart => exact ⟨0, 0, rfl, rfl, rfl, Lib.hid (Acc.zero _), rfl⟩
      case round =>
        obtain ⟨i, n, hqi, rfl, rfl, HA, rfl⟩ := hrel
        by_cases hi : i < x.size
        · have hii : (i : Int) < x.size := by omega
          have hi0 : (0 : Int) ≤ i := by omega
          by_cases c1 : (x[i]'hi).toNat < 48
          · have HP := Lib.hid (pp_dig hi (Or.inl c1) 0 (by decide))
            have c1b : ((x[i]'hi).toNat : Int) < 48 := by omega
            clear c1
            go_wp2_with fail
            go_ret2
            exact ⟨⟨_, _, rfl, HP.out⟩, Below.refl _ _⟩
          · by_cases c2 : 57 < (x[i]'hi).toNat
            · have HP := Lib.hid (pp_dig hi (Or.inr c2) 0 (by decide))
              have c1b : ¬ ((x[i]'hi).toNat : Int) < 48 := by omega
              have c2b : 57 < ((x[i]'hi).toNat : Int) := by omega
              clear c1 c2
              go_wp2_with fail
              go_ret2
              exact ⟨⟨_, _, rfl, HP.out⟩, Below.refl _ _⟩
            · have HS := Lib.hid (HA.out.step (by rw [Array.length_toList]; exact hi) (by rw [at_list hi]; omega) (by rw [at_list hi]; omega))
              rw [at_list hi] at HS
              have c1b : ¬ ((x[i]'hi).toNat : Int) < 48 := by omega
              have c2b : ¬ 57 < ((x[i]'hi).toNat : Int) := by omega
              have HW : Hid (((x[i]'hi).toNat : Int) - 48 = (((x[i]'hi).toNat : Int) - 48) % 256) := Lib.hid (by omega)
              clear c1 c2 HA
              go_wp2_with fail
              go_roundg (gk - 1)
              case measure => omega
              case rel => exact ⟨i + 1, _, by omega, rfl, by go_num, HS, rfl⟩
        · have hie : i = x.size := by omega
          subst hie
          have hii : ¬ ((x.size : Nat) : Int) < x.size := by omega
          clear hi
          have HY := Lib.hid (pp_yes h0 (by omega) HH.out HA.out)
          go_wp2_with fail
          go_ret2
          exact ⟨⟨_, _, rfl, HY.out⟩, Below.refl _ _⟩
end Go.Proofs.YtbdonjapcpfgiaaDoor
