/- Decimal: a number's text, digit by digit. -/
import Derived.Lib.ItoaLen
import Derived.Test.YtbdonjapcpfgiaaDoorOct
import Derived.Test.YtbdonjapcpfgiaaDoorQt
import Derived.Test.YtbdonjapcpfgiaaDoorLaw02
import Derived.Test.YtbdonjapcpfgiaaDoorHeld
import Derived.Deep.DeepCutAuto
import Derived.Maps.AppendAt
import Derived.Test.YtbdonjapcpfgiaaDoorRow
import Derived.Test.YtbdonjapcpfgiaaDoorOps
import Derived.RegionTactic
import Derived.BigRegion
import Derived.ChangeAlike
namespace Go.Proofs.YtbdonjapcpfgiaaDoor
set_option linter.unusedVariables false
set_option linter.unusedSimpArgs false
open Go.ChangeShapes Go.WideShapes Go.ChangeAt Go.RowKit
def itD (n : Int) : ByteArray := ⟨(Lib.itoa n).toArray⟩
theorem itD_size (n : Int) : (itD n).size = (Lib.itoa n).length := by simp [itD, ByteArray.size]
theorem itD_small (n : Int) (hn : fits n = true) : (itD n).size ≤ 21 := by
  obtain ⟨h1, h2⟩ := (fits_iff n).1 hn
  rw [itD_size]
  exact Lib.itoa_length_le n h1 h2
theorem lit_slD (w : World) (vs : List Value) (hv : 0 < vs.length) : Sl (w.alloc (.cells vs.toArray 5)) (some ⟨w.heap.size, 0, none⟩) vs.length 1 vs := by
  refine ⟨by omega, Or.inr ⟨_, _, rfl, by simp, fun j hj => ?_⟩⟩
  rw [Nat.zero_add, cell_of_row _ _ j _ _ _ (heap_alloc_new _ _), List.getD_eq_getElem?_getD, List.getElem?_eq_getElem (by omega)]
  simp [List.getElem?_eq_getElem (show j < vs.length by omega)]
/-- what a round keeps: the digits that are still to come, and those that are there. -/
def DecI (n m : Int) (l : List UInt8) : Prop := (m = 0 ∧ l = Lib.decDigits n.natAbs) ∨ (m ≠ 0 ∧ Lib.decDigits m.natAbs ++ l = Lib.decDigits n.natAbs)
theorem DecI.start {n : Int} (h : n ≠ 0) : DecI n n [] := Or.inr ⟨h, List.append_nil _⟩
theorem natAbs_tdiv10 (m : Int) : (m.tdiv 10).natAbs = m.natAbs / 10 := by rw [Int.natAbs_tdiv]; rfl
theorem natAbs_tmod10 (m : Int) : (m.tmod 10).natAbs = m.natAbs % 10 := by rw [Int.natAbs_tmod]; rfl
theorem DecI.step {n m : Int} {l : List UInt8} (h : DecI n m l) (hm : m ≠ 0) : DecI n (m.tdiv 10) (UInt8.ofNat (48 + m.natAbs % 10) :: l) := by
  rcases h with ⟨h0, _⟩ | ⟨_, h⟩
  · exact absurd h0 hm
  · have e := natAbs_tdiv10 m
    by_cases h10 : m.natAbs < 10
    · refine Or.inl ⟨by omega, ?_⟩
      rw [← h, Lib.decDigits, dif_pos h10, Nat.mod_eq_of_lt h10]
      rfl
    · refine Or.inr ⟨by omega, ?_⟩
      rw [← h, e]
      conv => rhs; rw [Lib.decDigits, dif_neg h10]
      rw [List.append_assoc]
      rfl
theorem DecI.len {n m : Int} {l : List UInt8} (h : DecI n m l) (hn : fits n = true) : l.length ≤ 21 := by
  have h2 := itD_small n hn
  rw [itD_size] at h2
  unfold Lib.itoa at h2
  have h3 : (Lib.decDigits n.natAbs).length ≤ 21 := by
    split at h2
    · rw [List.length_cons] at h2; omega
    · rw [show n.natAbs = n.toNat by omega]; exact h2
  rcases h with ⟨_, rfl⟩ | ⟨_, h⟩
  · exact h3
  · have := congrArg List.length h
    rw [List.length_append] at this
    omega
theorem cons_ba (c : UInt8) (l : List UInt8) : (⟨#[c]⟩ : ByteArray) ++ ⟨l.toArray⟩ = ⟨(c :: l).toArray⟩ := by
  rw [ByteArray.ext_iff]
  simp [ByteArray.data_append]
set_option maxHeartbeats 2000000 in
theorem dec_any (n : Int) (w : World) (hn : fits n = true) : Calls Tryd.prog 30 #[.int .i64 n] w fun e w' => e = .returned (.string (itD n)) ∧ Below w.heap.size w w' := by
  by_cases h0 : n = 0
  · subst h0
    have E : itD 0 = ⟨#[48]⟩ := by unfold itD Lib.itoa; rw [if_neg (by decide), show (0 : Int).toNat = 0 from rfl, Lib.decDigits_one (by decide)]; rfl
    rw [E]
    go_enter Tryd.func30, Tryd.ntmps30
    go_wp2_with fail
    go_ret
    exact ⟨rfl, Below.refl _ _⟩
  · have hb : (n == 0) = false := by simpa using h0
    have HN := Lib.hid hn
    have HS := Lib.hid (DecI.start h0)
    obtain ⟨RV, hRV⟩ : ∃ RV, RV = itD n := ⟨_, rfl⟩
    rw [← hRV]
    have HRV := Lib.hid hRV
    clear h0 hn hRV
    go_enter Tryd.func30, Tryd.ntmps30
    go_wp2_with fail
    clear hb
    go_loopg [3, 4] n.natAbs (fun q s3 s4 wr => ∃ (m : Int) (l : List UInt8) (SB : ByteArray), q = m.natAbs ∧ s3 = .string SB ∧ s4 = .int .i64 m ∧ Hid (SB = ⟨l.toArray⟩) ∧ Hid (DecI n m l) ∧ Hid (Below w.heap.size w wr) ∧ Hid (fits m = true))
    case atStart => exact ⟨n, [], ⟨#[]⟩, rfl, rfl, rfl, Lib.hid rfl, HS, Lib.hid (Below.refl _ _), HN⟩
    case round =>
      obtain ⟨m, l, SB, rfl, rfl, rfl, HSB, HD, HB, HF⟩ := hrel
      have hsz : SB.size ≤ 21 := by
        have := HD.out.len HN.out
        rw [HSB.out]
        simpa [ByteArray.size] using this
      by_cases hm : m = 0
      · have hmb : (m != 0) = false := by rw [hm]; rfl
        have HL : Hid (l = Lib.decDigits n.natAbs) := Lib.hid (by
          rcases HD.out with ⟨_, h⟩ | ⟨h, _⟩
          · exact h
          · exact absurd hm h)
        clear hm HD HF
        by_cases hn : n < 0
        · have HR : Hid (RV = ⟨#[45]⟩ ++ SB) := Lib.hid (by rw [HRV.out, HSB.out, cons_ba, HL.out]; unfold itD Lib.itoa; rw [if_pos hn])
          go_wp2_with fail
          go_ret
          exact ⟨by rw [HR.out]; rfl, HB.out⟩
        · have HR : Hid (RV = SB) := Lib.hid (by rw [HRV.out, HSB.out, HL.out]; unfold itD Lib.itoa; rw [if_neg hn, show n.toNat = n.natAbs by omega])
          go_wp2_with fail
          go_ret
          exact ⟨by rw [HR.out]; rfl, HB.out⟩
      · have hmb : (m != 0) = true := by simpa using hm
        have HST := Lib.hid (HD.out.step hm)
        have HFB := (fits_iff m).1 HF.out
        have HF2 : Hid (fits (m.tdiv 10) = true) := Lib.hid ((fits_iff _).2 (by have := natAbs_tdiv10 m; omega))
        have HMS : Hid ((m.tdiv 10).natAbs < m.natAbs) := Lib.hid (by have := natAbs_tdiv10 m; omega)
        have hq := Lib.hid (natAbs_tmod10 m)
        have HQ2 : Hid (wrap64 (m.tdiv 10) = m.tdiv 10) := Lib.hid (by have := natAbs_tdiv10 m; exact IntWalk.wrap64_in _ ⟨by omega, by omega⟩)
        obtain ⟨d, hd⟩ : ∃ d, d = m.tmod 10 := ⟨_, rfl⟩
        obtain ⟨x, hx⟩ : ∃ x : Nat, x = m.natAbs % 10 := ⟨_, rfl⟩
        have hx10 : x < 10 := by omega
        rw [← hd, ← hx] at hq
        rw [← hx] at HST
        have HD2 := Lib.hid hd
        have EQ := Lib.hid (fun w => show (binOp .rem 2 (.int .i64 m) (.int .i64 10)).run Tryd.prog w = .ok (.int .i64 d) w from by rw [hd]; simp [go_sem, binOp])
        clear hx hd HF HD hm HFB
        have ewx : 48 + (x : Int) = ((UInt8.ofNat (48 + x)).toNat : Int) := by
          have : (UInt8.ofNat (48 + x)).toNat = (48 + x) % 256 := by simp
          omega
        have HEW := Lib.hid ewx
        clear ewx
        go_upto_region 8 with fail
        rw [← HD2.out]
        rcases Int.lt_or_le d 0 with hneg | hpos
        · have ew : wrap64 (-d) = (x : Int) := by have := hq.out; rw [IntWalk.wrap64_in _ ⟨by omega, by omega⟩]; omega
          go_upto_region 10 with fail
          rw [ew]
          clear ew hneg
          have HSL : Hid (Sl (wr.alloc (.cells #[.int .u8 (48 + (x : Int))] 5)) (some ⟨wr.heap.size, 0, none⟩) 1 1 (bcells [UInt8.ofNat (48 + x)])) := Lib.hid (by
            have := lit_slD wr [.int .u8 (48 + (x : Int))] (by simp)
            rw [show bcells [UInt8.ofNat (48 + x)] = [.int .u8 (48 + (x : Int))] by rw [HEW.out]; rfl]
            exact this)
          have HB2 := Lib.hid (HB.out.alloc HB.out.size (.cells #[.int .u8 (48 + (x : Int))] 5))
          have kc := conv_bytes HSL.out 1
          obtain ⟨DB, hDB⟩ : ∃ DB : ByteArray, DB = ⟨[UInt8.ofNat (48 + x)].toArray⟩ := ⟨_, rfl⟩
          rw [← hDB] at kc
          have HDB := Lib.hid hDB
          have hs2 : DB.size ≤ 1 := by rw [hDB]; exact Nat.le_refl 1
          clear hDB HSL
          go_wp2_with fail
          go_roundg (m.tdiv 10).natAbs
          case measure => exact HMS.out
          case rel => exact ⟨m.tdiv 10, UInt8.ofNat (48 + x) :: l, _, rfl, rfl, by first | rfl | rw [HQ2.out], Lib.hid (by rw [HSB.out, HDB.out]; exact cons_ba _ _), HST, HB2, HF2⟩
        · have ed : d = (x : Int) := by have := hq.out; omega
          have hng : ¬ d < 0 := by omega
          go_upto_region 10 with fail
          rw [ed]
          clear ed hng hpos
          have HSL : Hid (Sl (wr.alloc (.cells #[.int .u8 (48 + (x : Int))] 5)) (some ⟨wr.heap.size, 0, none⟩) 1 1 (bcells [UInt8.ofNat (48 + x)])) := Lib.hid (by
            have := lit_slD wr [.int .u8 (48 + (x : Int))] (by simp)
            rw [show bcells [UInt8.ofNat (48 + x)] = [.int .u8 (48 + (x : Int))] by rw [HEW.out]; rfl]
            exact this)
          have HB2 := Lib.hid (HB.out.alloc HB.out.size (.cells #[.int .u8 (48 + (x : Int))] 5))
          have kc := conv_bytes HSL.out 1
          obtain ⟨DB, hDB⟩ : ∃ DB : ByteArray, DB = ⟨[UInt8.ofNat (48 + x)].toArray⟩ := ⟨_, rfl⟩
          rw [← hDB] at kc
          have HDB := Lib.hid hDB
          have hs2 : DB.size ≤ 1 := by rw [hDB]; exact Nat.le_refl 1
          clear hDB HSL
          go_wp2_with fail
          go_roundg (m.tdiv 10).natAbs
          case measure => exact HMS.out
          case rel => exact ⟨m.tdiv 10, UInt8.ofNat (48 + x) :: l, _, rfl, rfl, by first | rfl | rw [HQ2.out], Lib.hid (by rw [HSB.out, HDB.out]; exact cons_ba _ _), HST, HB2, HF2⟩
end Go.Proofs.YtbdonjapcpfgiaaDoor
