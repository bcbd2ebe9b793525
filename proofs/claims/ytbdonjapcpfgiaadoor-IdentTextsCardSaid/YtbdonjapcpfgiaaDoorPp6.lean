/- A number of its digits, by the reference: what each way out tells. -/
import Derived.Test.YtbdonjapcpfgiaaDoorMath6b
import Derived.Test.YtbdonjapcpfgiaaDoorPar6c
import Derived.Test.YtbdonjapcpfgiaaDoorRow
import Derived.IntWalk
import Derived.Lib.SliceRun
import Derived.Deep.DeepCutAuto
import Derived.Maps.AppendAt
import Derived.Test.YtbdonjapcpfgiaaDoorRow
import Derived.Test.YtbdonjapcpfgiaaDoorOps
import Derived.RegionTactic
import Derived.BigRegion
import Derived.ChangeAlike
namespace Go.Proofs.YtbdonjapcpfgiaaDoor
set_option linter.unusedVariables false
set_option linter.unusedSimpArgs false
open Go.ChangeShapes Go.WideShapes Go.ChangeAt Go.RowKit
/-- what the reference tells of a text: where a small number comes back, the text is that number's; and of a small number's text that number comes back. -/
def PP (x : ByteArray) (n : Int) (ok : Bool) : Prop := fits n = true ∧ (ok = true → 0 ≤ n → n ≤ 65535 → x = itB n) ∧ ∀ m, 0 ≤ m → m ≤ 65535 → x = itB m → ok = true ∧ n = m
def Acc (l : List UInt8) (i : Nat) (n : Int) : Prop := digs (l.take i) ∧ fits n = true ∧ ∃ k : Int, n = -(rdv (l.take i) : Int) + k * 18446744073709551616
theorem Acc.zero (l : List UInt8) : Acc l 0 0 := ⟨fun _ h => by simp at h, by decide, 0, rfl⟩
theorem wrap_mod (n : Int) : ∃ j : Int, wrap64 n = n + j * 18446744073709551616 := ⟨-((n + 9223372036854775808) / 18446744073709551616), by unfold wrap64; omega⟩
theorem wrap_fits (n : Int) : fits (wrap64 n) = true := (fits_iff _).2 (by unfold wrap64; omega)
theorem Acc.step {l : List UInt8} {i : Nat} {n : Int} (H : Acc l i n) (hi : i < l.length) (h1 : 48 ≤ (l[i]).toNat) (h2 : (l[i]).toNat ≤ 57) : Acc l (i + 1) (wrap64 (wrap64 (n * 10) - (((l[i]).toNat : Int) - 48))) := by
  obtain ⟨hd, hf, k, hk⟩ := H
  have e : l.take (i + 1) = l.take i ++ [l[i]] := List.take_succ_eq_append_getElem hi
  refine ⟨?_, wrap_fits _, ?_⟩
  · intro b hb
    rw [e] at hb
    rcases List.mem_append.1 hb with hb | hb
    · exact hd b hb
    · rw [List.mem_singleton] at hb
      subst hb
      exact ⟨h1, h2⟩
  · rw [e, rdv_snoc]
    obtain ⟨j1, e1⟩ := wrap_mod (n * 10)
    obtain ⟨j2, e2⟩ := wrap_mod (wrap64 (n * 10) - (((l[i]).toNat : Int) - 48))
    refine ⟨k * 10 + j1 + j2, ?_⟩
    rw [e2, e1, hk]
    omega
theorem itB_toList (n : Int) : (itB n).data.toList = Lib.itoa n := rfl
theorem small_of {x : ByteArray} {m : Int} (h0 : 0 ≤ m) (h1 : m ≤ 65535) (h : x = itB m) : x.data.toList = Lib.decDigits m.toNat ∧ 1 ≤ x.size ∧ x.size ≤ 5 := by
  subst h
  have e : (itB m).data.toList = Lib.decDigits m.toNat := by rw [itB_toList, itoa_pos h0]
  have l1 := dec_len (u := m.toNat) (by omega)
  have l2 := dec_ne m.toNat
  have l3 : (itB m).size = (Lib.decDigits m.toNat).length := by rw [← e, Array.length_toList]; rfl
  have l4 : (Lib.decDigits m.toNat).length ≠ 0 := fun h => l2 (List.eq_nil_of_length_eq_zero h)
  exact ⟨e, by omega, by omega⟩
theorem at_list {x : ByteArray} {i : Nat} (h : i < x.size) : x.data.toList[i]'(by rw [Array.length_toList]; exact h) = x[i] := by simp; rfl
theorem pp_size {x : ByteArray} (h : x.size = 0 ∨ 5 < x.size) : PP x 0 false := by
  refine ⟨by decide, (fun h => by cases h), fun m h0 h1 he => ?_⟩
  have := small_of h0 h1 he
  omega
theorem pp_dig {x : ByteArray} {i : Nat} (hi : i < x.size) (h : (x[i]).toNat < 48 ∨ 57 < (x[i]).toNat) (n : Int) (hn : fits n = true) : PP x n false := by
  refine ⟨hn, (fun h => by cases h), fun m h0 h1 he => ?_⟩
  have h2 := (small_of h0 h1 he).1
  have := dec_bytes m.toNat (x[i]) (by rw [← h2, ← at_list hi]; exact List.getElem_mem _)
  omega
theorem pp_head {x : ByteArray} (h1 : 1 < x.size) (h : (x[0]'(by omega)).toNat = 48) : PP x 0 false := by
  refine ⟨by decide, (fun h => by cases h), fun m h0 hm he => ?_⟩
  have h2 := (small_of h0 hm he).1
  have h3 := dec_head m.toNat (by rw [← h2, Array.length_toList]; exact h1)
  rw [← h2, List.head?_eq_getElem?, List.getElem?_eq_getElem (by rw [Array.length_toList]; exact Nat.lt_trans Nat.zero_lt_one h1), at_list (by omega)] at h3
  exact (h3 (congrArg some (UInt8.toNat_inj.1 h))).elim
theorem pow19 {l : List UInt8} (hd : digs l) (h : l.length ≤ 19) : rdv l < 10000000000000000000 := Nat.lt_of_lt_of_le (rdv_lt l hd) (Nat.le_trans (Nat.pow_le_pow_right (by decide) h) (by decide))
theorem pp_yes {x : ByteArray} {n : Int} (h1 : 1 ≤ x.size) (h19 : x.size ≤ 19) (hh : 1 < x.size → (x[0]'(by omega)).toNat ≠ 48) (H : Acc x.data.toList x.size n) : PP x (wrap64 (-n)) true := by
  obtain ⟨hd, hf, k, hk⟩ := H
  rw [List.take_of_length_le (by rw [Array.length_toList]; exact Nat.le_refl _)] at hd hk
  have hl : x.data.toList.length = x.size := Array.length_toList
  have hne : x.data.toList ≠ [] := fun e => by rw [e] at hl; simp at hl; omega
  have hv := pow19 hd (by omega)
  have hc := dec_rdv x.data.toList hne hd (fun hl1 e => hh (by omega) (by
    rw [List.head?_eq_getElem?, List.getElem?_eq_getElem (by omega), at_list (by omega)] at e
    rw [Option.some.inj e]; rfl))
  obtain ⟨j, hj⟩ := wrap_mod (-n)
  have hw := (fits_iff _).1 (wrap_fits (-n))
  refine ⟨wrap_fits _, fun _ h0 hm => ?_, fun m h0 hm he => ⟨rfl, ?_⟩⟩
  · have e : rdv x.data.toList = (wrap64 (-n)).toNat := by omega
    rw [e] at hc
    rw [ByteArray.ext_iff]
    apply Array.toList_inj.1
    rw [itB_toList, itoa_pos h0]
    exact hc.symm
  · have h2 := (small_of h0 hm he).1
    have h3 : rdv x.data.toList = m.toNat := by rw [h2, rdv_dec]
    omega
theorem pp_neg {x D : ByteArray} {n : Int} (hx : 0 < x.size) (hx0 : (x[0]'hx).toNat = 45) (hD : D = x.extract 1 x.size) (h1 : 1 ≤ D.size) (h19 : D.size ≤ 19) (hh : 1 < D.size → (D[0]'(by omega)).toNat ≠ 48) (h2 : x.toList ≠ [45, 48]) (H : Acc D.data.toList D.size n) : PP x n true := by
  obtain ⟨hd, hf, k, hk⟩ := H
  rw [List.take_of_length_le (by rw [Array.length_toList]; exact Nat.le_refl _)] at hd hk
  have hl : D.data.toList.length = D.size := Array.length_toList
  have hv := pow19 hd (by omega)
  have hxl : x.data.toList = 45 :: D.data.toList := by
    subst hD
    have hxl : x.data.toList.length = x.size := Array.length_toList
    have h0 := at_list hx
    revert h0 hxl
    rw [ByteArray.data_extract]
    intro hxl h0
    have : x.data.toList = x.data.toList[0]'(by omega) :: x.data.toList.drop 1 := by
      rw [List.getElem_cons_drop (by omega : 0 < x.data.toList.length)]; simp
    rw [this, h0, UInt8.toNat_inj.1 (show (x[0]).toNat = (45 : UInt8).toNat from hx0)]
    simp
    rw [List.take_of_length_le (by rw [List.length_tail, hxl]; exact Nat.le_refl _)]
  have hp : 1 ≤ rdv D.data.toList := by
    cases hD2 : D.data.toList with
    | nil => rw [hD2] at hl; simp at hl; omega
    | cons c r =>
      have hc := hd c (by rw [hD2]; exact List.mem_cons_self)
      have hc0 : (D[0]'(by omega)) = c := by rw [← at_list (by omega)]; simp [hD2]
      refine rdv_pos ?_
      rcases Nat.lt_or_ge 48 c.toNat with h | h
      · exact h
      · exfalso
        have h48 : c.toNat = 48 := by omega
        cases r with
        | nil => exact h2 (by rw [ByteArray.toList_eq, hxl, hD2, UInt8.toNat_inj.1 (show c.toNat = (48 : UInt8).toNat from h48)])
        | cons c2 r2 => exact hh (by rw [hD2] at hl; simp at hl; omega) (by rw [hc0]; exact h48)
  refine ⟨hf, fun _ h0 hm => ?_, fun m h0 hm he => ?_⟩
  · exfalso
    have := (fits_iff n).1 hf
    omega
  · have h2 := (small_of h0 hm he).1
    have := dec_bytes m.toNat 45 (by rw [← h2, hxl]; exact List.mem_cons_self)
    exact absurd this.1 (by decide)
end Go.Proofs.YtbdonjapcpfgiaaDoor
