/- EffTextsM: several texts in one. -/
import Derived.Lib.ItoaLen
import Derived.Test.YteebmpbplenikaaDoorOct
import Derived.Test.YteebmpbplenikaaDoorQt
import Derived.Test.YteebmpbplenikaaDoorLaw02
import Derived.Test.YteebmpbplenikaaDoorHeld
import Derived.Deep.DeepCutAuto
import Derived.Maps.AppendAt
import Derived.Test.YteebmpbplenikaaDoorRow
import Derived.Test.YteebmpbplenikaaDoorOps
import Derived.RegionTactic
import Derived.BigRegion
import Derived.ChangeAlike
import Derived.Test.YteebmpbplenikaaDoorTxtM
import Derived.Test.YteebmpbplenikaaDoorEffPuts
namespace Go.Proofs.YteebmpbplenikaaDoor
set_option linter.unusedVariables false
set_option linter.unusedSimpArgs false
open Go.ChangeShapes Go.WideShapes Go.ChangeAt Go.RowKit
def itD (n : Int) : ByteArray := ⟨(Lib.itoa n).toArray⟩
theorem itD_size (n : Int) : (itD n).size = (Lib.itoa n).length := by simp [itD, ByteArray.size]
theorem itD_small (n : Int) (hn : fits n = true) : (itD n).size ≤ 21 := by
  obtain ⟨h1, h2⟩ := (fits_iff n).1 hn
  rw [itD_size]
  exact Lib.itoa_length_le n h1 h2
theorem lit_slD (w : World) (vs : List Value) (hv : 0 < vs.length) : Sl (w.alloc (.cells vs.toArray 5)) (some ⟨w.heap.size, 0, none⟩) vs.length 1 vs := by
  refine ⟨by omega, Or.inr ⟨_, _, rfl, by simp, fun j hj => ?_⟩⟩
  rw [Nat.zero_add, cell_of_row _ _ j _ _ _ (heap_alloc_new _ _), List.getD_eq_getElem?_getD, List.getElem?_eq_getElem (by omega)]
  simp [List.getElem?_eq_getElem (show j < vs.length by omega)]
/-- what a round keeps: the digits that are still to come, and those that are there. -/
def DecI (n m : Int) (l : List UInt8) : Prop := (m = 0 ∧ l = Lib.decDigits n.natAbs) ∨ (m ≠ 0 ∧ Lib.decDigits m.natAbs ++ l = Lib.decDigits n.natAbs)
theorem DecI.start {n : Int} (h : n ≠ 0) : DecI n n [] := Or.inr ⟨h, List.append_nil _⟩
theorem natAbs_tdiv10 (m : Int) : (m.tdiv 10).natAbs = m.natAbs / 10 := by rw [Int.natAbs_tdiv]; rfl
theorem natAbs_tmod10 (m : Int) : (m.tmod 10).natAbs = m.natAbs % 10 := by rw [Int.natAbs_tmod]; rfl
theorem DecI.step {n m : Int} {l : List UInt8} (h : DecI n m l) (hm : m ≠ 0) : DecI n (m.tdiv 10) (UInt8.ofNat (48 + m.natAbs % 10) :: l) := by
  rcases h with ⟨h0, _⟩ | ⟨_, h⟩
  · exact absurd h0 hm
  · have e := natAbs_tdiv10 m
    by_cases h10 : m.natAbs < 10
    · refine Or.inl ⟨by omega, ?_⟩
      rw [← h, Lib.decDigits, dif_pos h10, Nat.mod_eq_of_lt h10]
      rfl
    · refine Or.inr ⟨by omega, ?_⟩
      rw [← h, e]
      conv => rhs; rw [Lib.decDigits, dif_neg h10]
      rw [List.append_assoc]
      rfl
theorem DecI.len {n m : Int} {l : List UInt8} (h : DecI n m l) (hn : fits n = true) : l.length ≤ 21 := by
  have h2 := itD_small n hn
  rw [itD_size] at h2
  unfold Lib.itoa at h2
  have h3 : (Lib.decDigits n.natAbs).length ≤ 21 := by
    split at h2
    · rw [List.length_cons] at h2; omega
    · rw [show n.natAbs = n.toNat by omega]; exact h2
  rcases h with ⟨_, rfl⟩ | ⟨_, h⟩
  · exact h3
  · have := congrArg List.length h
    rw [List.length_append] at this
    omega
theorem cons_ba (c : UInt8) (l : List UInt8) : (⟨#[c]⟩ : ByteArray) ++ ⟨l.toArray⟩ = ⟨(c :: l).toArray⟩ := by
  rw [ByteArray.ext_iff]
  simp [ByteArray.data_append]
set_option maxHeartbeats 2000000 in
theorem dec_any (n : Int) (w : World) (hn : fits n = true) : Calls Tryd.prog 18 #[.int .i64 n] w fun e w' => e = .returned (.string (itD n)) ∧ Below w.heap.size w w' := by
  by_cases h0 : n = 0
  · subst h0
    have E : itD 0 = ⟨#[48]⟩ := by unfold itD Lib.itoa; rw [if_neg (by decide), show (0 : Int).toNat = 0 from rfl, Lib.decDigits_one (by decide)]; rfl
    rw [E]
    go_enter Tryd.func18, Tryd.ntmps18
    go_wp2_with fail
    go_ret
    exact ⟨rfl, Below.refl _ _⟩
  · have hb : (n == 0) = false := by simpa using h0
    have HN := Lib.hid hn
    have HS := Lib.hid (DecI.start h0)
    obtain ⟨RV, hRV⟩ : ∃ RV, RV = itD n := ⟨_, rfl⟩
    rw [← hRV]
    have HRV := Lib.hid hRV
    clear h0 hn hRV
    go_enter Tryd.func18, Tryd.ntmps18
    go_wp2_with fail
    clear hb
    go_loopg [3, 4] n.natAbs (fun q s3 s4 wr => ∃ (m : Int) (l : List UInt8) (SB : ByteArray), q = m.natAbs ∧ s3 = .string SB ∧ s4 = .int .i64 m ∧ Hid (SB = ⟨l.toArray⟩) ∧ Hid (DecI n m l) ∧ Hid (Below w.heap.size w wr) ∧ Hid (fits m = true))
    case atStart => exact ⟨n, [], ⟨#[]⟩, rfl, rfl, rfl, Lib.hid rfl, HS, Lib.hid (Below.refl _ _), HN⟩
    case round =>
      obtain ⟨m, l, SB, rfl, rfl, rfl, HSB, HD, HB, HF⟩ := hrel
      have hsz : SB.size ≤ 21 := by
        have := HD.out.len HN.out
        rw [HSB.out]
        simpa [ByteArray.size] using this
      by_cases hm : m = 0
      · have hmb : (m != 0) = false := by rw [hm]; rfl
        have HL : Hid (l = Lib.decDigits n.natAbs) := Lib.hid (by
          rcases HD.out with ⟨_, h⟩ | ⟨h, _⟩
          · exact h
          · exact absurd hm h)
        clear hm HD HF
        by_cases hn : n < 0
        · have HR : Hid (RV = ⟨#[45]⟩ ++ SB) := Lib.hid (by rw [HRV.out, HSB.out, cons_ba, HL.out]; unfold itD Lib.itoa; rw [if_pos hn])
          go_wp2_with fail
          go_ret
          exact ⟨by rw [HR.out]; rfl, HB.out⟩
        · have HR : Hid (RV = SB) := Lib.hid (by rw [HRV.out, HSB.out, HL.out]; unfold itD Lib.itoa; rw [if_neg hn, show n.toNat = n.natAbs by omega])
          go_wp2_with fail
          go_ret
          exact ⟨by rw [HR.out]; rfl, HB.out⟩
      · have hmb : (m != 0) = true := by simpa using hm
        have HST := Lib.hid (HD.out.step hm)
        have HFB := (fits_iff m).1 HF.out
        have HF2 : Hid (fits (m.tdiv 10) = true) := Lib.hid ((fits_iff _).2 (by have := natAbs_tdiv10 m; omega))
        have HMS : Hid ((m.tdiv 10).natAbs < m.natAbs) := Lib.hid (by have := natAbs_tdiv10 m; omega)
        have hq := Lib.hid (natAbs_tmod10 m)
        have HQ2 : Hid (wrap64 (m.tdiv 10) = m.tdiv 10) := Lib.hid (by have := natAbs_tdiv10 m; exact IntWalk.wrap64_in _ ⟨by omega, by omega⟩)
        obtain ⟨d, hd⟩ : ∃ d, d = m.tmod 10 := ⟨_, rfl⟩
        obtain ⟨x, hx⟩ : ∃ x : Nat, x = m.natAbs % 10 := ⟨_, rfl⟩
        have hx10 : x < 10 := by omega
        rw [← hd, ← hx] at hq
        rw [← hx] at HST
        have HD2 := Lib.hid hd
        have EQ := Lib.hid (fun w => show (binOp .rem 2 (.int .i64 m) (.int .i64 10)).run Tryd.prog w = .ok (.int .i64 d) w from by rw [hd]; simp [go_sem, binOp])
        clear hx hd HF HD hm HFB
        have ewx : 48 + (x : Int) = ((UInt8.ofNat (48 + x)).toNat : Int) := by
          have : (UInt8.ofNat (48 + x)).toNat = (48 + x) % 256 := by simp
          omega
        have HEW := Lib.hid ewx
        clear ewx
        go_upto_region 8 with fail
        rw [← HD2.out]
        rcases Int.lt_or_le d 0 with hneg | hpos
        · have ew : wrap64 (-d) = (x : Int) := by have := hq.out; rw [IntWalk.wrap64_in _ ⟨by omega, by omega⟩]; omega
          go_upto_region 10 with fail
          rw [ew]
          clear ew hneg
          have HSL : Hid (Sl (wr.alloc (.cells #[.int .u8 (48 + (x : Int))] 5)) (some ⟨wr.heap.size, 0, none⟩) 1 1 (bcells [UInt8.ofNat (48 + x)])) := Lib.hid (by
            have := lit_slD wr [.int .u8 (48 + (x : Int))] (by simp)
            rw [show bcells [UInt8.ofNat (48 + x)] = [.int .u8 (48 + (x : Int))] by rw [HEW.out]; rfl]
            exact this)
          have HB2 := Lib.hid (HB.out.alloc HB.out.size (.cells #[.int .u8 (48 + (x : Int))] 5))
          have kc := conv_bytes HSL.out 1
          obtain ⟨DB, hDB⟩ : ∃ DB : ByteArray, DB = ⟨[UInt8.ofNat (48 + x)].toArray⟩ := ⟨_, rfl⟩
          rw [← hDB] at kc
          have HDB := Lib.hid hDB
          have hs2 : DB.size ≤ 1 := by rw [hDB]; exact Nat.le_refl 1
          clear hDB HSL
          go_wp2_with fail
          go_roundg (m.tdiv 10).natAbs
          case measure => exact HMS.out
          case rel => exact ⟨m.tdiv 10, UInt8.ofNat (48 + x) :: l, _, rfl, rfl, by first | rfl | rw [HQ2.out], Lib.hid (by rw [HSB.out, HDB.out]; exact cons_ba _ _), HST, HB2, HF2⟩
        · have ed : d = (x : Int) := by have := hq.out; omega
          have hng : ¬ d < 0 := by omega
          go_upto_region 10 with fail
          rw [ed]
          clear ed hng hpos
          have HSL : Hid (Sl (wr.alloc (.cells #[.int .u8 (48 + (x : Int))] 5)) (some ⟨wr.heap.size, 0, none⟩) 1 1 (bcells [UInt8.ofNat (48 + x)])) := Lib.hid (by
            have := lit_slD wr [.int .u8 (48 + (x : Int))] (by simp)
            rw [show bcells [UInt8.ofNat (48 + x)] = [.int .u8 (48 + (x : Int))] by rw [HEW.out]; rfl]
            exact this)
          have HB2 := Lib.hid (HB.out.alloc HB.out.size (.cells #[.int .u8 (48 + (x : Int))] 5))
          have kc := conv_bytes HSL.out 1
          obtain ⟨DB, hDB⟩ : ∃ DB : ByteArray, DB = ⟨[UInt8.ofNat (48 + x)].toArray⟩ := ⟨_, rfl⟩
          rw [← hDB] at kc
          have HDB := Lib.hid hDB
          have hs2 : DB.size ≤ 1 := by rw [hDB]; exact Nat.le_refl 1
          clear hDB HSL
          go_wp2_with fail
          go_roundg (m.tdiv 10).natAbs
          case measure => exact HMS.out
          case rel => exact ⟨m.tdiv 10, UInt8.ofNat (48 + x) :: l, _, rfl, rfl, by first | rfl | rw [HQ2.out], Lib.hid (by rw [HSB.out, HDB.out]; exact cons_ba _ _), HST, HB2, HF2⟩
theorem decB (n : Int) (w : World) (hn : fits n = true) : Calls Tryd.prog 18 #[.int .i64 n] w fun e w' => e = .returned (.string (itB n)) ∧ Below w.heap.size w w' := dec_any n w hn
set_option maxHeartbeats 2000000 in
theorem ridtext_any (p q : Int) (w : World) (hp : fits p = true) (hq : fits q = true) : Calls Tryd.prog 19 #[.agg #[.int .i64 p, .int .i64 q]] w fun e w' => e = .returned (.string (idB p q)) ∧ Below w.heap.size w w' := by
  have HB := Lib.hid ((Below.refl w.heap.size w).alloc (Nat.le_refl _) (.cells #[.int .i64 p, .int .i64 q] 23))
  have A := Lib.hid (Blk.new w #[.int .i64 p, .int .i64 q] 23)
  have hl := Lib.hid (show w.heap.size < (w.alloc (.cells #[.int .i64 p, .int .i64 q] 23)).heap.size by simp)
  have CP := Lib.hid (fun w' (hb : Below (w.alloc (.cells #[.int .i64 p, .int .i64 q] 23)).heap.size (w.alloc (.cells #[.int .i64 p, .int .i64 q] 23)) w') => decB p w' hp)
  have CQ := Lib.hid (fun w' (hb : Below (w.alloc (.cells #[.int .i64 p, .int .i64 q] 23)).heap.size (w.alloc (.cells #[.int .i64 p, .int .i64 q] 23)) w') => decB q w' hq)
  have s1 := itB_small p hp
  have s2 := itB_small q hq
  go_enter Tryd.func19, Tryd.ntmps19
  go_upto_region 1 with fail
  generalize hg : w.heap.size = g at *
  generalize (w.alloc (.cells #[.int .i64 p, .int .i64 q] 23)) = w1 at *
  have HG := Lib.hid hg
  clear hg
  refine q_begin (by kernel_rfl) (by kernel_rfl) ?_
  repeat (first
    | go_big_quiet_skip
    | ((with_reducible apply q_int); (· rfl); (· rfl); (· exact Tryd.underlying3); (· exact A.out); (· exact hl.out); (· rfl); (simp only [Act.put, List.setIfInBounds_toArray, List.set_cons_zero, List.set_cons_succ]))
    | ((with_reducible apply q_call 18 (.string (itB p))); (· rfl); (· exact Nat.le_refl _); (· intro w hw; exact CP.out w hw); (· intro w; go_simp); (simp only [Act.put, List.setIfInBounds_toArray, List.set_cons_zero, List.set_cons_succ]))
    | ((with_reducible apply q_call 18 (.string (itB q))); (· rfl); (· exact Nat.le_refl _); (· intro w hw; exact CQ.out w hw); (· intro w; go_simp); (simp only [Act.put, List.setIfInBounds_toArray, List.set_cons_zero, List.set_cons_succ]))
    | (go_big_quiet_want; go_big_quiet_op; (first | go_big_quiet_on | (apply Exists.intro; refine ⟨fun _ _ => rfl, ?_⟩; go_big_quiet_on))))
  refine q_end ?_
  intro w2 hb
  have hg := HG.out
  subst hg
  have HB2 := HB.out.trans (hb.mono HB.out.size)
  go_wp2_with fail
  go_ret
  exact ⟨rfl, HB2⟩
theorem words_blk (w : World) (i : Nat) (hi : i < 12) : (w.alloc (.cells #[.string ⟨#[63]⟩, .string ⟨#[114, 101, 115, 101, 114, 118, 101]⟩, .string ⟨#[97, 100, 106, 117, 115, 116]⟩, .string ⟨#[114, 101, 108, 101, 97, 115, 101]⟩, .string ⟨#[97, 117, 116, 104, 111, 114, 105, 122, 101]⟩, .string ⟨#[108, 97, 98, 101, 108]⟩, .string ⟨#[112, 105, 99, 107]⟩, .string ⟨#[109, 97, 105, 108]⟩, .string ⟨#[114, 101, 99, 101, 105, 112, 116]⟩, .string ⟨#[99, 97, 112, 116, 117, 114, 101]⟩, .string ⟨#[114, 101, 112, 97, 121]⟩, .string ⟨#[100, 105, 115, 112, 97, 116, 99, 104]⟩] 47)).cell? ⟨w.heap.size, i, none⟩ = some (.string (wordB i)) := by
  rw [(Blk.new w #[.string ⟨#[63]⟩, .string ⟨#[114, 101, 115, 101, 114, 118, 101]⟩, .string ⟨#[97, 100, 106, 117, 115, 116]⟩, .string ⟨#[114, 101, 108, 101, 97, 115, 101]⟩, .string ⟨#[97, 117, 116, 104, 111, 114, 105, 122, 101]⟩, .string ⟨#[108, 97, 98, 101, 108]⟩, .string ⟨#[112, 105, 99, 107]⟩, .string ⟨#[109, 97, 105, 108]⟩, .string ⟨#[114, 101, 99, 101, 105, 112, 116]⟩, .string ⟨#[99, 97, 112, 116, 117, 114, 101]⟩, .string ⟨#[114, 101, 112, 97, 121]⟩, .string ⟨#[100, 105, 115, 112, 97, 116, 99, 104]⟩] 47).cell i]
  rcases i with _ | _ | _ | _ | _ | _ | _ | _ | _ | _ | _ | _ | i
  all_goals first | rfl | omega
set_option maxRecDepth 100000 in
set_option maxHeartbeats 8000000 in
theorem texts10 (k a n p q : Int) (w : World) (hT : PTab w) (hW : WTab w) (hf0 : ∀ z ∈ [k, a, n, p, q], fits z = true) : Calls Tryd.prog 5 #[.agg #[.int .i64 k, .int .i64 a, .int .i64 n, .int .i64 p, .int .i64 q]] w fun e w' => e = .returned (.bool true) ∧ Below w.heap.size w w' := by
  have hfa := hf0 a (by simp)
  have hfn := hf0 n (by simp)
  have hfp := hf0 p (by simp)
  have hfq := hf0 q (by simp)
  have hf : ∀ z ∈ [a, n, p, q], fits z = true := fun z hz => hf0 z (List.mem_cons_of_mem _ hz)
  clear hf0
  have s1 := itB_small a hfa
  have s2 := itB_small n hfn
  have s3 := itB_small p hfp
  have s4 := itB_small q hfq
  have s6 : (idB p q).size ≤ 43 := by
    unfold idB
    rw [ByteArray.size_append, ByteArray.size_append]
    show _ + 1 + _ ≤ _
    omega
  have TXE : ∀ kz : Int, RowT 25 (ints [kz, a, n, p, q]).length := fun kz => eff_row
  rcases hk : isKnd k with _ | _
  · have TXE := TXE k
    have hkk : ¬ (1 ≤ k ∧ k ≤ 11) := by rw [← isKnd_iff, hk]; decide
    by_cases hz : p = 0 ∧ q = 0
    · have hRV : txtB k a n p q = ⟨#[63]⟩ ++ ⟨#[32]⟩ ++ itB a ++ ⟨#[32]⟩ ++ itB n := by unfold txtB; rw [hk]; exact if_pos hz
      by_cases h1 : 1 ≤ k
      · have h2 : ¬ k ≤ 11 := fun h => hkk ⟨h1, h⟩
        clear hk hkk
        have HB := Lib.hid ((Below.refl w.heap.size w).alloc (Nat.le_refl _) (.cells #[.int .i64 k, .int .i64 a, .int .i64 n, .int .i64 p, .int .i64 q] 25))
        have A := Lib.hid (Blk.new w #[.int .i64 k, .int .i64 a, .int .i64 n, .int .i64 p, .int .i64 q] 25)
        have HAL := Lib.hid (fun w' (hb : Below w.heap.size w w') => alive10 w' (hT.keep hb) (hW.keep hb))
        have TX : Hid (∀ w', Below w.heap.size w w' → Calls Tryd.prog 20 #[.agg #[.int .i64 k, .int .i64 a, .int .i64 n, .int .i64 p, .int .i64 q]] w' fun e w2 => e = .returned (.string (⟨#[63]⟩ ++ ⟨#[32]⟩ ++ itB a ++ ⟨#[32]⟩ ++ itB n)) ∧ Below w'.heap.size w' w2) := Lib.hid (fun w' hb => by
          have := text_any k a n p q w' hf (hT.keep hb) (hW.keep hb)
          rw [hRV] at this
          exact this)
        have CA := Lib.hid (fun w' => decB a w' hfa)
        have CN := Lib.hid (fun w' => decB n w' hfn)
        have CI := Lib.hid (fun w' => ridtext_any p q w' hfp hfq)
        have NE := Lib.hid (id_ne hfp hfq)
        rw [decide_eq_true hz] at NE
        clear hT hW hf hfa hfn hfp hfq hRV hz
        go_enter Tryd.func5, Tryd.ntmps5
        go_upto_region 1 with fail
        generalize hg0 : w.heap.size = g0 at *
        have HG0 := Lib.hid hg0
        generalize w.alloc (.cells #[.int .i64 k, .int .i64 a, .int .i64 n, .int .i64 p, .int .i64 q] 25) = w1 at *
        clear hg0
        have AL1 := Lib.hid (HAL.out w1 HB.out)
        go_wp2_with fail
        refine AL1.out.mono ?_
        rintro e w2 ⟨rfl, hb⟩
        have HB2 := Lib.hid (HB.out.trans (hb.mono (HG0.out ▸ HB.out.size)))
        have A2 := Lib.hid (A.out.keep hb A.out.lt)
        clear hb HB A AL1 HAL
        have HC := Lib.hid (words_blk w2)
        have HB3 := Lib.hid (HB2.out.alloc (HG0.out ▸ HB2.out.size) (.cells #[.string ⟨#[63]⟩, .string ⟨#[114, 101, 115, 101, 114, 118, 101]⟩, .string ⟨#[97, 100, 106, 117, 115, 116]⟩, .string ⟨#[114, 101, 108, 101, 97, 115, 101]⟩, .string ⟨#[97, 117, 116, 104, 111, 114, 105, 122, 101]⟩, .string ⟨#[108, 97, 98, 101, 108]⟩, .string ⟨#[112, 105, 99, 107]⟩, .string ⟨#[109, 97, 105, 108]⟩, .string ⟨#[114, 101, 99, 101, 105, 112, 116]⟩, .string ⟨#[99, 97, 112, 116, 117, 114, 101]⟩, .string ⟨#[114, 101, 112, 97, 121]⟩, .string ⟨#[100, 105, 115, 112, 97, 116, 99, 104]⟩] 47))
        have A3 := Lib.hid (A2.out.alloc (.cells #[.string ⟨#[63]⟩, .string ⟨#[114, 101, 115, 101, 114, 118, 101]⟩, .string ⟨#[97, 100, 106, 117, 115, 116]⟩, .string ⟨#[114, 101, 108, 101, 97, 115, 101]⟩, .string ⟨#[97, 117, 116, 104, 111, 114, 105, 122, 101]⟩, .string ⟨#[108, 97, 98, 101, 108]⟩, .string ⟨#[112, 105, 99, 107]⟩, .string ⟨#[109, 97, 105, 108]⟩, .string ⟨#[114, 101, 99, 101, 105, 112, 116]⟩, .string ⟨#[99, 97, 112, 116, 117, 114, 101]⟩, .string ⟨#[114, 101, 112, 97, 121]⟩, .string ⟨#[100, 105, 115, 112, 97, 116, 99, 104]⟩] 47))
        go_upto_region 4 with fail
        clear HB2 A2
        generalize hg2 : w2.heap.size = g2 at *
        generalize w2.alloc (.cells #[.string ⟨#[63]⟩, .string ⟨#[114, 101, 115, 101, 114, 118, 101]⟩, .string ⟨#[97, 100, 106, 117, 115, 116]⟩, .string ⟨#[114, 101, 108, 101, 97, 115, 101]⟩, .string ⟨#[97, 117, 116, 104, 111, 114, 105, 122, 101]⟩, .string ⟨#[108, 97, 98, 101, 108]⟩, .string ⟨#[112, 105, 99, 107]⟩, .string ⟨#[109, 97, 105, 108]⟩, .string ⟨#[114, 101, 99, 101, 105, 112, 116]⟩, .string ⟨#[99, 97, 112, 116, 117, 114, 101]⟩, .string ⟨#[114, 101, 112, 97, 121]⟩, .string ⟨#[100, 105, 115, 112, 97, 116, 99, 104]⟩] 47) = w3 at *
        clear hg2
        have ca := A3.out.cell 0
        have hl := Lib.hid A3.out.lt
        go_upto_region 7 with fail
        clear ca HC
        refine q_begin (by kernel_rfl) (by kernel_rfl) ?_
        repeat (first
          | go_big_quiet_skip
          | ((with_reducible apply q_int); (· rfl); (· rfl); (· exact Tryd.underlying3); (· exact A3.out); (· exact hl.out); (· rfl); (simp only [Act.put, List.setIfInBounds_toArray, List.set_cons_zero, List.set_cons_succ]))
          | ((with_reducible apply q_int); (· rfl); (· rfl); (· exact Tryd.underlying2); (· exact A3.out); (· exact hl.out); (· rfl); (simp only [Act.put, List.setIfInBounds_toArray, List.set_cons_zero, List.set_cons_succ]))
          | ((with_reducible apply q_call 18 (.string (itB a))); (· rfl); (· exact Nat.le_refl _); (· intro w _; exact CA.out w); (· intro w; go_simp); (simp only [Act.put, List.setIfInBounds_toArray, List.set_cons_zero, List.set_cons_succ]))
          | ((with_reducible apply q_call 18 (.string (itB n))); (· rfl); (· exact Nat.le_refl _); (· intro w _; exact CN.out w); (· intro w; go_simp); (simp only [Act.put, List.setIfInBounds_toArray, List.set_cons_zero, List.set_cons_succ]))
          | (go_big_quiet_want; go_big_quiet_op; (first | go_big_quiet_on | (apply Exists.intro; refine ⟨fun _ _ => rfl, ?_⟩; go_big_quiet_on))))
        refine q_end ?_
        intro w4 hb4
        have HB4 := Lib.hid (HB3.out.trans (hb4.mono (HG0.out ▸ HB3.out.size)))
        have A4 := Lib.hid (A3.out.keep hb4 hl.out)
        have ri : w4.rangeAt g0 3 (ints [p, q]) := A4.out.range 3 (ints [p, q]) rfl
        clear hb4 HB3 A3 hl CA CN
        go_upto_region 10 with (first
          | ((with_reducible refine ld_row ri id_row ?_ ?_ ?_); (· rfl); (· rfl); (simp only [Act.put, List.setIfInBounds_toArray, List.set_cons_zero, List.set_cons_succ]))
          | ((with_reducible refine cmp_row id_guard NE.out ?_ ?_ ?_ ?_); (· rfl); (· rfl); (· rfl); (simp only [Act.put, List.setIfInBounds_toArray, List.set_cons_zero, List.set_cons_succ])))
        clear ri
        have rx : w4.rangeAt g0 0 (ints [k, a, n, p, q]) := A4.out.range 0 _ rfl
        have TX1 := Lib.hid (TX.out w4 HB4.out)
        clear TX
        go_wp2_with (first
          | ((with_reducible refine ld_row rx TXE ?_ ?_ ?_); (· rfl); (· rfl); (simp only [Act.put, List.setIfInBounds_toArray, List.set_cons_zero, List.set_cons_succ])))
        refine TX1.out.mono ?_
        rintro e w9 ⟨rfl, hb⟩
        have HB9 := Lib.hid (HB4.out.trans (hb.mono (HG0.out ▸ HB4.out.size)))
        clear hb
        go_wp2_with fail
        go_ret
        have hge := HG0.out
        subst hge
        exact ⟨rfl, HB9.out⟩

      · clear hk hkk
        have HB := Lib.hid ((Below.refl w.heap.size w).alloc (Nat.le_refl _) (.cells #[.int .i64 k, .int .i64 a, .int .i64 n, .int .i64 p, .int .i64 q] 25))
        have A := Lib.hid (Blk.new w #[.int .i64 k, .int .i64 a, .int .i64 n, .int .i64 p, .int .i64 q] 25)
        have HAL := Lib.hid (fun w' (hb : Below w.heap.size w w') => alive10 w' (hT.keep hb) (hW.keep hb))
        have TX : Hid (∀ w', Below w.heap.size w w' → Calls Tryd.prog 20 #[.agg #[.int .i64 k, .int .i64 a, .int .i64 n, .int .i64 p, .int .i64 q]] w' fun e w2 => e = .returned (.string (⟨#[63]⟩ ++ ⟨#[32]⟩ ++ itB a ++ ⟨#[32]⟩ ++ itB n)) ∧ Below w'.heap.size w' w2) := Lib.hid (fun w' hb => by
          have := text_any k a n p q w' hf (hT.keep hb) (hW.keep hb)
          rw [hRV] at this
          exact this)
        have CA := Lib.hid (fun w' => decB a w' hfa)
        have CN := Lib.hid (fun w' => decB n w' hfn)
        have CI := Lib.hid (fun w' => ridtext_any p q w' hfp hfq)
        have NE := Lib.hid (id_ne hfp hfq)
        rw [decide_eq_true hz] at NE
        clear hT hW hf hfa hfn hfp hfq hRV hz
        go_enter Tryd.func5, Tryd.ntmps5
        go_upto_region 1 with fail
        generalize hg0 : w.heap.size = g0 at *
        have HG0 := Lib.hid hg0
        generalize w.alloc (.cells #[.int .i64 k, .int .i64 a, .int .i64 n, .int .i64 p, .int .i64 q] 25) = w1 at *
        clear hg0
        have AL1 := Lib.hid (HAL.out w1 HB.out)
        go_wp2_with fail
        refine AL1.out.mono ?_
        rintro e w2 ⟨rfl, hb⟩
        have HB2 := Lib.hid (HB.out.trans (hb.mono (HG0.out ▸ HB.out.size)))
        have A2 := Lib.hid (A.out.keep hb A.out.lt)
        clear hb HB A AL1 HAL
        have HC := Lib.hid (words_blk w2)
        have HB3 := Lib.hid (HB2.out.alloc (HG0.out ▸ HB2.out.size) (.cells #[.string ⟨#[63]⟩, .string ⟨#[114, 101, 115, 101, 114, 118, 101]⟩, .string ⟨#[97, 100, 106, 117, 115, 116]⟩, .string ⟨#[114, 101, 108, 101, 97, 115, 101]⟩, .string ⟨#[97, 117, 116, 104, 111, 114, 105, 122, 101]⟩, .string ⟨#[108, 97, 98, 101, 108]⟩, .string ⟨#[112, 105, 99, 107]⟩, .string ⟨#[109, 97, 105, 108]⟩, .string ⟨#[114, 101, 99, 101, 105, 112, 116]⟩, .string ⟨#[99, 97, 112, 116, 117, 114, 101]⟩, .string ⟨#[114, 101, 112, 97, 121]⟩, .string ⟨#[100, 105, 115, 112, 97, 116, 99, 104]⟩] 47))
        have A3 := Lib.hid (A2.out.alloc (.cells #[.string ⟨#[63]⟩, .string ⟨#[114, 101, 115, 101, 114, 118, 101]⟩, .string ⟨#[97, 100, 106, 117, 115, 116]⟩, .string ⟨#[114, 101, 108, 101, 97, 115, 101]⟩, .string ⟨#[97, 117, 116, 104, 111, 114, 105, 122, 101]⟩, .string ⟨#[108, 97, 98, 101, 108]⟩, .string ⟨#[112, 105, 99, 107]⟩, .string ⟨#[109, 97, 105, 108]⟩, .string ⟨#[114, 101, 99, 101, 105, 112, 116]⟩, .string ⟨#[99, 97, 112, 116, 117, 114, 101]⟩, .string ⟨#[114, 101, 112, 97, 121]⟩, .string ⟨#[100, 105, 115, 112, 97, 116, 99, 104]⟩] 47))
        go_upto_region 4 with fail
        clear HB2 A2
        generalize hg2 : w2.heap.size = g2 at *
        generalize w2.alloc (.cells #[.string ⟨#[63]⟩, .string ⟨#[114, 101, 115, 101, 114, 118, 101]⟩, .string ⟨#[97, 100, 106, 117, 115, 116]⟩, .string ⟨#[114, 101, 108, 101, 97, 115, 101]⟩, .string ⟨#[97, 117, 116, 104, 111, 114, 105, 122, 101]⟩, .string ⟨#[108, 97, 98, 101, 108]⟩, .string ⟨#[112, 105, 99, 107]⟩, .string ⟨#[109, 97, 105, 108]⟩, .string ⟨#[114, 101, 99, 101, 105, 112, 116]⟩, .string ⟨#[99, 97, 112, 116, 117, 114, 101]⟩, .string ⟨#[114, 101, 112, 97, 121]⟩, .string ⟨#[100, 105, 115, 112, 97, 116, 99, 104]⟩] 47) = w3 at *
        clear hg2
        have ca := A3.out.cell 0
        have hl := Lib.hid A3.out.lt
        go_upto_region 7 with fail
        clear ca HC
        refine q_begin (by kernel_rfl) (by kernel_rfl) ?_
        repeat (first
          | go_big_quiet_skip
          | ((with_reducible apply q_int); (· rfl); (· rfl); (· exact Tryd.underlying3); (· exact A3.out); (· exact hl.out); (· rfl); (simp only [Act.put, List.setIfInBounds_toArray, List.set_cons_zero, List.set_cons_succ]))
          | ((with_reducible apply q_int); (· rfl); (· rfl); (· exact Tryd.underlying2); (· exact A3.out); (· exact hl.out); (· rfl); (simp only [Act.put, List.setIfInBounds_toArray, List.set_cons_zero, List.set_cons_succ]))
          | ((with_reducible apply q_call 18 (.string (itB a))); (· rfl); (· exact Nat.le_refl _); (· intro w _; exact CA.out w); (· intro w; go_simp); (simp only [Act.put, List.setIfInBounds_toArray, List.set_cons_zero, List.set_cons_succ]))
          | ((with_reducible apply q_call 18 (.string (itB n))); (· rfl); (· exact Nat.le_refl _); (· intro w _; exact CN.out w); (· intro w; go_simp); (simp only [Act.put, List.setIfInBounds_toArray, List.set_cons_zero, List.set_cons_succ]))
          | (go_big_quiet_want; go_big_quiet_op; (first | go_big_quiet_on | (apply Exists.intro; refine ⟨fun _ _ => rfl, ?_⟩; go_big_quiet_on))))
        refine q_end ?_
        intro w4 hb4
        have HB4 := Lib.hid (HB3.out.trans (hb4.mono (HG0.out ▸ HB3.out.size)))
        have A4 := Lib.hid (A3.out.keep hb4 hl.out)
        have ri : w4.rangeAt g0 3 (ints [p, q]) := A4.out.range 3 (ints [p, q]) rfl
        clear hb4 HB3 A3 hl CA CN
        go_upto_region 10 with (first
          | ((with_reducible refine ld_row ri id_row ?_ ?_ ?_); (· rfl); (· rfl); (simp only [Act.put, List.setIfInBounds_toArray, List.set_cons_zero, List.set_cons_succ]))
          | ((with_reducible refine cmp_row id_guard NE.out ?_ ?_ ?_ ?_); (· rfl); (· rfl); (· rfl); (simp only [Act.put, List.setIfInBounds_toArray, List.set_cons_zero, List.set_cons_succ])))
        clear ri
        have rx : w4.rangeAt g0 0 (ints [k, a, n, p, q]) := A4.out.range 0 _ rfl
        have TX1 := Lib.hid (TX.out w4 HB4.out)
        clear TX
        go_wp2_with (first
          | ((with_reducible refine ld_row rx TXE ?_ ?_ ?_); (· rfl); (· rfl); (simp only [Act.put, List.setIfInBounds_toArray, List.set_cons_zero, List.set_cons_succ])))
        refine TX1.out.mono ?_
        rintro e w9 ⟨rfl, hb⟩
        have HB9 := Lib.hid (HB4.out.trans (hb.mono (HG0.out ▸ HB4.out.size)))
        clear hb
        go_wp2_with fail
        go_ret
        have hge := HG0.out
        subst hge
        exact ⟨rfl, HB9.out⟩

    · have hRV : txtB k a n p q = ⟨#[63]⟩ ++ ⟨#[32]⟩ ++ itB a ++ ⟨#[32]⟩ ++ itB n ++ ⟨#[32]⟩ ++ idB p q := by unfold txtB; rw [hk]; refine (if_neg hz).trans ?_; rw [ByteArray.append_assoc (b := ⟨#[32]⟩) (c := idB p q)]; rfl
      by_cases h1 : 1 ≤ k
      · have h2 : ¬ k ≤ 11 := fun h => hkk ⟨h1, h⟩
        clear hk hkk
        have HB := Lib.hid ((Below.refl w.heap.size w).alloc (Nat.le_refl _) (.cells #[.int .i64 k, .int .i64 a, .int .i64 n, .int .i64 p, .int .i64 q] 25))
        have A := Lib.hid (Blk.new w #[.int .i64 k, .int .i64 a, .int .i64 n, .int .i64 p, .int .i64 q] 25)
        have HAL := Lib.hid (fun w' (hb : Below w.heap.size w w') => alive10 w' (hT.keep hb) (hW.keep hb))
        have TX : Hid (∀ w', Below w.heap.size w w' → Calls Tryd.prog 20 #[.agg #[.int .i64 k, .int .i64 a, .int .i64 n, .int .i64 p, .int .i64 q]] w' fun e w2 => e = .returned (.string (⟨#[63]⟩ ++ ⟨#[32]⟩ ++ itB a ++ ⟨#[32]⟩ ++ itB n ++ ⟨#[32]⟩ ++ idB p q)) ∧ Below w'.heap.size w' w2) := Lib.hid (fun w' hb => by
          have := text_any k a n p q w' hf (hT.keep hb) (hW.keep hb)
          rw [hRV] at this
          exact this)
        have CA := Lib.hid (fun w' => decB a w' hfa)
        have CN := Lib.hid (fun w' => decB n w' hfn)
        have CI := Lib.hid (fun w' => ridtext_any p q w' hfp hfq)
        have NE := Lib.hid (id_ne hfp hfq)
        rw [decide_eq_false hz] at NE
        clear hT hW hf hfa hfn hfp hfq hRV hz
        go_enter Tryd.func5, Tryd.ntmps5
        go_upto_region 1 with fail
        generalize hg0 : w.heap.size = g0 at *
        have HG0 := Lib.hid hg0
        generalize w.alloc (.cells #[.int .i64 k, .int .i64 a, .int .i64 n, .int .i64 p, .int .i64 q] 25) = w1 at *
        clear hg0
        have AL1 := Lib.hid (HAL.out w1 HB.out)
        go_wp2_with fail
        refine AL1.out.mono ?_
        rintro e w2 ⟨rfl, hb⟩
        have HB2 := Lib.hid (HB.out.trans (hb.mono (HG0.out ▸ HB.out.size)))
        have A2 := Lib.hid (A.out.keep hb A.out.lt)
        clear hb HB A AL1 HAL
        have HC := Lib.hid (words_blk w2)
        have HB3 := Lib.hid (HB2.out.alloc (HG0.out ▸ HB2.out.size) (.cells #[.string ⟨#[63]⟩, .string ⟨#[114, 101, 115, 101, 114, 118, 101]⟩, .string ⟨#[97, 100, 106, 117, 115, 116]⟩, .string ⟨#[114, 101, 108, 101, 97, 115, 101]⟩, .string ⟨#[97, 117, 116, 104, 111, 114, 105, 122, 101]⟩, .string ⟨#[108, 97, 98, 101, 108]⟩, .string ⟨#[112, 105, 99, 107]⟩, .string ⟨#[109, 97, 105, 108]⟩, .string ⟨#[114, 101, 99, 101, 105, 112, 116]⟩, .string ⟨#[99, 97, 112, 116, 117, 114, 101]⟩, .string ⟨#[114, 101, 112, 97, 121]⟩, .string ⟨#[100, 105, 115, 112, 97, 116, 99, 104]⟩] 47))
        have A3 := Lib.hid (A2.out.alloc (.cells #[.string ⟨#[63]⟩, .string ⟨#[114, 101, 115, 101, 114, 118, 101]⟩, .string ⟨#[97, 100, 106, 117, 115, 116]⟩, .string ⟨#[114, 101, 108, 101, 97, 115, 101]⟩, .string ⟨#[97, 117, 116, 104, 111, 114, 105, 122, 101]⟩, .string ⟨#[108, 97, 98, 101, 108]⟩, .string ⟨#[112, 105, 99, 107]⟩, .string ⟨#[109, 97, 105, 108]⟩, .string ⟨#[114, 101, 99, 101, 105, 112, 116]⟩, .string ⟨#[99, 97, 112, 116, 117, 114, 101]⟩, .string ⟨#[114, 101, 112, 97, 121]⟩, .string ⟨#[100, 105, 115, 112, 97, 116, 99, 104]⟩] 47))
        go_upto_region 4 with fail
        clear HB2 A2
        generalize hg2 : w2.heap.size = g2 at *
        generalize w2.alloc (.cells #[.string ⟨#[63]⟩, .string ⟨#[114, 101, 115, 101, 114, 118, 101]⟩, .string ⟨#[97, 100, 106, 117, 115, 116]⟩, .string ⟨#[114, 101, 108, 101, 97, 115, 101]⟩, .string ⟨#[97, 117, 116, 104, 111, 114, 105, 122, 101]⟩, .string ⟨#[108, 97, 98, 101, 108]⟩, .string ⟨#[112, 105, 99, 107]⟩, .string ⟨#[109, 97, 105, 108]⟩, .string ⟨#[114, 101, 99, 101, 105, 112, 116]⟩, .string ⟨#[99, 97, 112, 116, 117, 114, 101]⟩, .string ⟨#[114, 101, 112, 97, 121]⟩, .string ⟨#[100, 105, 115, 112, 97, 116, 99, 104]⟩] 47) = w3 at *
        clear hg2
        have ca := A3.out.cell 0
        have hl := Lib.hid A3.out.lt
        go_upto_region 7 with fail
        clear ca HC
        refine q_begin (by kernel_rfl) (by kernel_rfl) ?_
        repeat (first
          | go_big_quiet_skip
          | ((with_reducible apply q_int); (· rfl); (· rfl); (· exact Tryd.underlying3); (· exact A3.out); (· exact hl.out); (· rfl); (simp only [Act.put, List.setIfInBounds_toArray, List.set_cons_zero, List.set_cons_succ]))
          | ((with_reducible apply q_int); (· rfl); (· rfl); (· exact Tryd.underlying2); (· exact A3.out); (· exact hl.out); (· rfl); (simp only [Act.put, List.setIfInBounds_toArray, List.set_cons_zero, List.set_cons_succ]))
          | ((with_reducible apply q_call 18 (.string (itB a))); (· rfl); (· exact Nat.le_refl _); (· intro w _; exact CA.out w); (· intro w; go_simp); (simp only [Act.put, List.setIfInBounds_toArray, List.set_cons_zero, List.set_cons_succ]))
          | ((with_reducible apply q_call 18 (.string (itB n))); (· rfl); (· exact Nat.le_refl _); (· intro w _; exact CN.out w); (· intro w; go_simp); (simp only [Act.put, List.setIfInBounds_toArray, List.set_cons_zero, List.set_cons_succ]))
          | (go_big_quiet_want; go_big_quiet_op; (first | go_big_quiet_on | (apply Exists.intro; refine ⟨fun _ _ => rfl, ?_⟩; go_big_quiet_on))))
        refine q_end ?_
        intro w4 hb4
        have HB4 := Lib.hid (HB3.out.trans (hb4.mono (HG0.out ▸ HB3.out.size)))
        have A4 := Lib.hid (A3.out.keep hb4 hl.out)
        have ri : w4.rangeAt g0 3 (ints [p, q]) := A4.out.range 3 (ints [p, q]) rfl
        clear hb4 HB3 A3 hl CA CN
        go_wp2_with (first
          | ((with_reducible refine ld_row ri id_row ?_ ?_ ?_); (· rfl); (· rfl); (simp only [Act.put, List.setIfInBounds_toArray, List.set_cons_zero, List.set_cons_succ]))
          | ((with_reducible refine cmp_row id_guard NE.out ?_ ?_ ?_ ?_); (· rfl); (· rfl); (· rfl); (simp only [Act.put, List.setIfInBounds_toArray, List.set_cons_zero, List.set_cons_succ])))
        refine (CI.out _).mono ?_
        rintro e w5 ⟨rfl, hb⟩
        have HB5 := Lib.hid (HB4.out.trans (hb.mono (HG0.out ▸ HB4.out.size)))
        have A5 := Lib.hid (A4.out.keep hb A4.out.lt)
        clear hb HB4 A4 ri CI
        go_upto_region 10 with fail
        have rx : w5.rangeAt g0 0 (ints [k, a, n, p, q]) := A5.out.range 0 _ rfl
        have TX1 := Lib.hid (TX.out w5 HB5.out)
        clear TX
        go_wp2_with (first
          | ((with_reducible refine ld_row rx TXE ?_ ?_ ?_); (· rfl); (· rfl); (simp only [Act.put, List.setIfInBounds_toArray, List.set_cons_zero, List.set_cons_succ])))
        refine TX1.out.mono ?_
        rintro e w9 ⟨rfl, hb⟩
        have HB9 := Lib.hid (HB5.out.trans (hb.mono (HG0.out ▸ HB5.out.size)))
        clear hb
        go_wp2_with fail
        go_ret
        have hge := HG0.out
        subst hge
        exact ⟨rfl, HB9.out⟩

      · clear hk hkk
        have HB := Lib.hid ((Below.refl w.heap.size w).alloc (Nat.le_refl _) (.cells #[.int .i64 k, .int .i64 a, .int .i64 n, .int .i64 p, .int .i64 q] 25))
        have A := Lib.hid (Blk.new w #[.int .i64 k, .int .i64 a, .int .i64 n, .int .i64 p, .int .i64 q] 25)
        have HAL := Lib.hid (fun w' (hb : Below w.heap.size w w') => alive10 w' (hT.keep hb) (hW.keep hb))
        have TX : Hid (∀ w', Below w.heap.size w w' → Calls Tryd.prog 20 #[.agg #[.int .i64 k, .int .i64 a, .int .i64 n, .int .i64 p, .int .i64 q]] w' fun e w2 => e = .returned (.string (⟨#[63]⟩ ++ ⟨#[32]⟩ ++ itB a ++ ⟨#[32]⟩ ++ itB n ++ ⟨#[32]⟩ ++ idB p q)) ∧ Below w'.heap.size w' w2) := Lib.hid (fun w' hb => by
          have := text_any k a n p q w' hf (hT.keep hb) (hW.keep hb)
          rw [hRV] at this
          exact this)
        have CA := Lib.hid (fun w' => decB a w' hfa)
        have CN := Lib.hid (fun w' => decB n w' hfn)
        have CI := Lib.hid (fun w' => ridtext_any p q w' hfp hfq)
        have NE := Lib.hid (id_ne hfp hfq)
        rw [decide_eq_false hz] at NE
        clear hT hW hf hfa hfn hfp hfq hRV hz
        go_enter Tryd.func5, Tryd.ntmps5
        go_upto_region 1 with fail
        generalize hg0 : w.heap.size = g0 at *
        have HG0 := Lib.hid hg0
        generalize w.alloc (.cells #[.int .i64 k, .int .i64 a, .int .i64 n, .int .i64 p, .int .i64 q] 25) = w1 at *
        clear hg0
        have AL1 := Lib.hid (HAL.out w1 HB.out)
        go_wp2_with fail
        refine AL1.out.mono ?_
        rintro e w2 ⟨rfl, hb⟩
        have HB2 := Lib.hid (HB.out.trans (hb.mono (HG0.out ▸ HB.out.size)))
        have A2 := Lib.hid (A.out.keep hb A.out.lt)
        clear hb HB A AL1 HAL
        have HC := Lib.hid (words_blk w2)
        have HB3 := Lib.hid (HB2.out.alloc (HG0.out ▸ HB2.out.size) (.cells #[.string ⟨#[63]⟩, .string ⟨#[114, 101, 115, 101, 114, 118, 101]⟩, .string ⟨#[97, 100, 106, 117, 115, 116]⟩, .string ⟨#[114, 101, 108, 101, 97, 115, 101]⟩, .string ⟨#[97, 117, 116, 104, 111, 114, 105, 122, 101]⟩, .string ⟨#[108, 97, 98, 101, 108]⟩, .string ⟨#[112, 105, 99, 107]⟩, .string ⟨#[109, 97, 105, 108]⟩, .string ⟨#[114, 101, 99, 101, 105, 112, 116]⟩, .string ⟨#[99, 97, 112, 116, 117, 114, 101]⟩, .string ⟨#[114, 101, 112, 97, 121]⟩, .string ⟨#[100, 105, 115, 112, 97, 116, 99, 104]⟩] 47))
        have A3 := Lib.hid (A2.out.alloc (.cells #[.string ⟨#[63]⟩, .string ⟨#[114, 101, 115, 101, 114, 118, 101]⟩, .string ⟨#[97, 100, 106, 117, 115, 116]⟩, .string ⟨#[114, 101, 108, 101, 97, 115, 101]⟩, .string ⟨#[97, 117, 116, 104, 111, 114, 105, 122, 101]⟩, .string ⟨#[108, 97, 98, 101, 108]⟩, .string ⟨#[112, 105, 99, 107]⟩, .string ⟨#[109, 97, 105, 108]⟩, .string ⟨#[114, 101, 99, 101, 105, 112, 116]⟩, .string ⟨#[99, 97, 112, 116, 117, 114, 101]⟩, .string ⟨#[114, 101, 112, 97, 121]⟩, .string ⟨#[100, 105, 115, 112, 97, 116, 99, 104]⟩] 47))
        go_upto_region 4 with fail
        clear HB2 A2
        generalize hg2 : w2.heap.size = g2 at *
        generalize w2.alloc (.cells #[.string ⟨#[63]⟩, .string ⟨#[114, 101, 115, 101, 114, 118, 101]⟩, .string ⟨#[97, 100, 106, 117, 115, 116]⟩, .string ⟨#[114, 101, 108, 101, 97, 115, 101]⟩, .string ⟨#[97, 117, 116, 104, 111, 114, 105, 122, 101]⟩, .string ⟨#[108, 97, 98, 101, 108]⟩, .string ⟨#[112, 105, 99, 107]⟩, .string ⟨#[109, 97, 105, 108]⟩, .string ⟨#[114, 101, 99, 101, 105, 112, 116]⟩, .string ⟨#[99, 97, 112, 116, 117, 114, 101]⟩, .string ⟨#[114, 101, 112, 97, 121]⟩, .string ⟨#[100, 105, 115, 112, 97, 116, 99, 104]⟩] 47) = w3 at *
        clear hg2
        have ca := A3.out.cell 0
        have hl := Lib.hid A3.out.lt
        go_upto_region 7 with fail
        clear ca HC
        refine q_begin (by kernel_rfl) (by kernel_rfl) ?_
        repeat (first
          | go_big_quiet_skip
          | ((with_reducible apply q_int); (· rfl); (· rfl); (· exact Tryd.underlying3); (· exact A3.out); (· exact hl.out); (· rfl); (simp only [Act.put, List.setIfInBounds_toArray, List.set_cons_zero, List.set_cons_succ]))
          | ((with_reducible apply q_int); (· rfl); (· rfl); (· exact Tryd.underlying2); (· exact A3.out); (· exact hl.out); (· rfl); (simp only [Act.put, List.setIfInBounds_toArray, List.set_cons_zero, List.set_cons_succ]))
          | ((with_reducible apply q_call 18 (.string (itB a))); (· rfl); (· exact Nat.le_refl _); (· intro w _; exact CA.out w); (· intro w; go_simp); (simp only [Act.put, List.setIfInBounds_toArray, List.set_cons_zero, List.set_cons_succ]))
          | ((with_reducible apply q_call 18 (.string (itB n))); (· rfl); (· exact Nat.le_refl _); (· intro w _; exact CN.out w); (· intro w; go_simp); (simp only [Act.put, List.setIfInBounds_toArray, List.set_cons_zero, List.set_cons_succ]))
          | (go_big_quiet_want; go_big_quiet_op; (first | go_big_quiet_on | (apply Exists.intro; refine ⟨fun _ _ => rfl, ?_⟩; go_big_quiet_on))))
        refine q_end ?_
        intro w4 hb4
        have HB4 := Lib.hid (HB3.out.trans (hb4.mono (HG0.out ▸ HB3.out.size)))
        have A4 := Lib.hid (A3.out.keep hb4 hl.out)
        have ri : w4.rangeAt g0 3 (ints [p, q]) := A4.out.range 3 (ints [p, q]) rfl
        clear hb4 HB3 A3 hl CA CN
        go_wp2_with (first
          | ((with_reducible refine ld_row ri id_row ?_ ?_ ?_); (· rfl); (· rfl); (simp only [Act.put, List.setIfInBounds_toArray, List.set_cons_zero, List.set_cons_succ]))
          | ((with_reducible refine cmp_row id_guard NE.out ?_ ?_ ?_ ?_); (· rfl); (· rfl); (· rfl); (simp only [Act.put, List.setIfInBounds_toArray, List.set_cons_zero, List.set_cons_succ])))
        refine (CI.out _).mono ?_
        rintro e w5 ⟨rfl, hb⟩
        have HB5 := Lib.hid (HB4.out.trans (hb.mono (HG0.out ▸ HB4.out.size)))
        have A5 := Lib.hid (A4.out.keep hb A4.out.lt)
        clear hb HB4 A4 ri CI
        go_upto_region 10 with fail
        have rx : w5.rangeAt g0 0 (ints [k, a, n, p, q]) := A5.out.range 0 _ rfl
        have TX1 := Lib.hid (TX.out w5 HB5.out)
        clear TX
        go_wp2_with (first
          | ((with_reducible refine ld_row rx TXE ?_ ?_ ?_); (· rfl); (· rfl); (simp only [Act.put, List.setIfInBounds_toArray, List.set_cons_zero, List.set_cons_succ])))
        refine TX1.out.mono ?_
        rintro e w9 ⟨rfl, hb⟩
        have HB9 := Lib.hid (HB5.out.trans (hb.mono (HG0.out ▸ HB5.out.size)))
        clear hb
        go_wp2_with fail
        go_ret
        have hge := HG0.out
        subst hge
        exact ⟨rfl, HB9.out⟩

  · have hkk := (isKnd_iff k).1 hk
    obtain ⟨kk, hkn⟩ : ∃ kk : Nat, (kk : Int) = k := ⟨k.toNat, by omega⟩
    have TXE := TXE (kk : Int)
    have s5 := wordB_size kk
    have HKK : Hid (kk < 12) := Lib.hid (by omega)
    have hk0 : (0 : Int) ≤ kk := by omega
    have hk1 : (kk : Int) < 12 := by omega
    have hk2 : (1 : Int) ≤ kk := by omega
    have hk3 : (kk : Int) ≤ 11 := by omega
    by_cases hz : p = 0 ∧ q = 0
    · have hRV : txtB k a n p q = wordB kk ++ ⟨#[32]⟩ ++ itB a ++ ⟨#[32]⟩ ++ itB n := by unfold txtB; rw [hk, show k.toNat = kk by omega]; exact if_pos hz
      clear hk hkk
      subst hkn
      have HB := Lib.hid ((Below.refl w.heap.size w).alloc (Nat.le_refl _) (.cells #[.int .i64 (kk : Int), .int .i64 a, .int .i64 n, .int .i64 p, .int .i64 q] 25))
      have A := Lib.hid (Blk.new w #[.int .i64 (kk : Int), .int .i64 a, .int .i64 n, .int .i64 p, .int .i64 q] 25)
      have HAL := Lib.hid (fun w' (hb : Below w.heap.size w w') => alive10 w' (hT.keep hb) (hW.keep hb))
      have TX : Hid (∀ w', Below w.heap.size w w' → Calls Tryd.prog 20 #[.agg #[.int .i64 (kk : Int), .int .i64 a, .int .i64 n, .int .i64 p, .int .i64 q]] w' fun e w2 => e = .returned (.string (wordB kk ++ ⟨#[32]⟩ ++ itB a ++ ⟨#[32]⟩ ++ itB n)) ∧ Below w'.heap.size w' w2) := Lib.hid (fun w' hb => by
        have := text_any (kk : Int) a n p q w' hf (hT.keep hb) (hW.keep hb)
        rw [hRV] at this
        exact this)
      have CA := Lib.hid (fun w' => decB a w' hfa)
      have CN := Lib.hid (fun w' => decB n w' hfn)
      have CI := Lib.hid (fun w' => ridtext_any p q w' hfp hfq)
      have NE := Lib.hid (id_ne hfp hfq)
      rw [decide_eq_true hz] at NE
      clear hT hW hf hfa hfn hfp hfq hRV hz
      go_enter Tryd.func5, Tryd.ntmps5
      go_upto_region 1 with fail
      generalize hg0 : w.heap.size = g0 at *
      have HG0 := Lib.hid hg0
      generalize w.alloc (.cells #[.int .i64 (kk : Int), .int .i64 a, .int .i64 n, .int .i64 p, .int .i64 q] 25) = w1 at *
      clear hg0
      have AL1 := Lib.hid (HAL.out w1 HB.out)
      go_wp2_with fail
      refine AL1.out.mono ?_
      rintro e w2 ⟨rfl, hb⟩
      have HB2 := Lib.hid (HB.out.trans (hb.mono (HG0.out ▸ HB.out.size)))
      have A2 := Lib.hid (A.out.keep hb A.out.lt)
      clear hb HB A AL1 HAL
      have HC := Lib.hid (words_blk w2)
      have HB3 := Lib.hid (HB2.out.alloc (HG0.out ▸ HB2.out.size) (.cells #[.string ⟨#[63]⟩, .string ⟨#[114, 101, 115, 101, 114, 118, 101]⟩, .string ⟨#[97, 100, 106, 117, 115, 116]⟩, .string ⟨#[114, 101, 108, 101, 97, 115, 101]⟩, .string ⟨#[97, 117, 116, 104, 111, 114, 105, 122, 101]⟩, .string ⟨#[108, 97, 98, 101, 108]⟩, .string ⟨#[112, 105, 99, 107]⟩, .string ⟨#[109, 97, 105, 108]⟩, .string ⟨#[114, 101, 99, 101, 105, 112, 116]⟩, .string ⟨#[99, 97, 112, 116, 117, 114, 101]⟩, .string ⟨#[114, 101, 112, 97, 121]⟩, .string ⟨#[100, 105, 115, 112, 97, 116, 99, 104]⟩] 47))
      have A3 := Lib.hid (A2.out.alloc (.cells #[.string ⟨#[63]⟩, .string ⟨#[114, 101, 115, 101, 114, 118, 101]⟩, .string ⟨#[97, 100, 106, 117, 115, 116]⟩, .string ⟨#[114, 101, 108, 101, 97, 115, 101]⟩, .string ⟨#[97, 117, 116, 104, 111, 114, 105, 122, 101]⟩, .string ⟨#[108, 97, 98, 101, 108]⟩, .string ⟨#[112, 105, 99, 107]⟩, .string ⟨#[109, 97, 105, 108]⟩, .string ⟨#[114, 101, 99, 101, 105, 112, 116]⟩, .string ⟨#[99, 97, 112, 116, 117, 114, 101]⟩, .string ⟨#[114, 101, 112, 97, 121]⟩, .string ⟨#[100, 105, 115, 112, 97, 116, 99, 104]⟩] 47))
      go_upto_region 4 with fail
      clear HB2 A2
      generalize hg2 : w2.heap.size = g2 at *
      generalize w2.alloc (.cells #[.string ⟨#[63]⟩, .string ⟨#[114, 101, 115, 101, 114, 118, 101]⟩, .string ⟨#[97, 100, 106, 117, 115, 116]⟩, .string ⟨#[114, 101, 108, 101, 97, 115, 101]⟩, .string ⟨#[97, 117, 116, 104, 111, 114, 105, 122, 101]⟩, .string ⟨#[108, 97, 98, 101, 108]⟩, .string ⟨#[112, 105, 99, 107]⟩, .string ⟨#[109, 97, 105, 108]⟩, .string ⟨#[114, 101, 99, 101, 105, 112, 116]⟩, .string ⟨#[99, 97, 112, 116, 117, 114, 101]⟩, .string ⟨#[114, 101, 112, 97, 121]⟩, .string ⟨#[100, 105, 115, 112, 97, 116, 99, 104]⟩] 47) = w3 at *
      clear hg2
      have ca := A3.out.cell 0
      have hl := Lib.hid A3.out.lt
      have cw := HC.out kk HKK.out
      go_upto_region 7 with fail
      clear ca cw HC
      refine q_begin (by kernel_rfl) (by kernel_rfl) ?_
      repeat (first
        | go_big_quiet_skip
        | ((with_reducible apply q_int); (· rfl); (· rfl); (· exact Tryd.underlying3); (· exact A3.out); (· exact hl.out); (· rfl); (simp only [Act.put, List.setIfInBounds_toArray, List.set_cons_zero, List.set_cons_succ]))
        | ((with_reducible apply q_int); (· rfl); (· rfl); (· exact Tryd.underlying2); (· exact A3.out); (· exact hl.out); (· rfl); (simp only [Act.put, List.setIfInBounds_toArray, List.set_cons_zero, List.set_cons_succ]))
        | ((with_reducible apply q_call 18 (.string (itB a))); (· rfl); (· exact Nat.le_refl _); (· intro w _; exact CA.out w); (· intro w; go_simp); (simp only [Act.put, List.setIfInBounds_toArray, List.set_cons_zero, List.set_cons_succ]))
        | ((with_reducible apply q_call 18 (.string (itB n))); (· rfl); (· exact Nat.le_refl _); (· intro w _; exact CN.out w); (· intro w; go_simp); (simp only [Act.put, List.setIfInBounds_toArray, List.set_cons_zero, List.set_cons_succ]))
        | (go_big_quiet_want; go_big_quiet_op; (first | go_big_quiet_on | (apply Exists.intro; refine ⟨fun _ _ => rfl, ?_⟩; go_big_quiet_on))))
      refine q_end ?_
      intro w4 hb4
      have HB4 := Lib.hid (HB3.out.trans (hb4.mono (HG0.out ▸ HB3.out.size)))
      have A4 := Lib.hid (A3.out.keep hb4 hl.out)
      have ri : w4.rangeAt g0 3 (ints [p, q]) := A4.out.range 3 (ints [p, q]) rfl
      clear hb4 HB3 A3 hl CA CN
      go_upto_region 10 with (first
        | ((with_reducible refine ld_row ri id_row ?_ ?_ ?_); (· rfl); (· rfl); (simp only [Act.put, List.setIfInBounds_toArray, List.set_cons_zero, List.set_cons_succ]))
        | ((with_reducible refine cmp_row id_guard NE.out ?_ ?_ ?_ ?_); (· rfl); (· rfl); (· rfl); (simp only [Act.put, List.setIfInBounds_toArray, List.set_cons_zero, List.set_cons_succ])))
      clear ri
      have rx : w4.rangeAt g0 0 (ints [(kk : Int), a, n, p, q]) := A4.out.range 0 _ rfl
      have TX1 := Lib.hid (TX.out w4 HB4.out)
      clear TX
      go_wp2_with (first
        | ((with_reducible refine ld_row rx TXE ?_ ?_ ?_); (· rfl); (· rfl); (simp only [Act.put, List.setIfInBounds_toArray, List.set_cons_zero, List.set_cons_succ])))
      refine TX1.out.mono ?_
      rintro e w9 ⟨rfl, hb⟩
      have HB9 := Lib.hid (HB4.out.trans (hb.mono (HG0.out ▸ HB4.out.size)))
      clear hb
      go_wp2_with fail
      go_ret
      have hge := HG0.out
      subst hge
      exact ⟨rfl, HB9.out⟩

    · have hRV : txtB k a n p q = wordB kk ++ ⟨#[32]⟩ ++ itB a ++ ⟨#[32]⟩ ++ itB n ++ ⟨#[32]⟩ ++ idB p q := by unfold txtB; rw [hk, show k.toNat = kk by omega]; refine (if_neg hz).trans ?_; rw [ByteArray.append_assoc (b := ⟨#[32]⟩) (c := idB p q)]; rfl
      clear hk hkk
      subst hkn
      have HB := Lib.hid ((Below.refl w.heap.size w).alloc (Nat.le_refl _) (.cells #[.int .i64 (kk : Int), .int .i64 a, .int .i64 n, .int .i64 p, .int .i64 q] 25))
      have A := Lib.hid (Blk.new w #[.int .i64 (kk : Int), .int .i64 a, .int .i64 n, .int .i64 p, .int .i64 q] 25)
      have HAL := Lib.hid (fun w' (hb : Below w.heap.size w w') => alive10 w' (hT.keep hb) (hW.keep hb))
      have TX : Hid (∀ w', Below w.heap.size w w' → Calls Tryd.prog 20 #[.agg #[.int .i64 (kk : Int), .int .i64 a, .int .i64 n, .int .i64 p, .int .i64 q]] w' fun e w2 => e = .returned (.string (wordB kk ++ ⟨#[32]⟩ ++ itB a ++ ⟨#[32]⟩ ++ itB n ++ ⟨#[32]⟩ ++ idB p q)) ∧ Below w'.heap.size w' w2) := Lib.hid (fun w' hb => by
        have := text_any (kk : Int) a n p q w' hf (hT.keep hb) (hW.keep hb)
        rw [hRV] at this
        exact this)
      have CA := Lib.hid (fun w' => decB a w' hfa)
      have CN := Lib.hid (fun w' => decB n w' hfn)
      have CI := Lib.hid (fun w' => ridtext_any p q w' hfp hfq)
      have NE := Lib.hid (id_ne hfp hfq)
      rw [decide_eq_false hz] at NE
      clear hT hW hf hfa hfn hfp hfq hRV hz
      go_enter Tryd.func5, Tryd.ntmps5
      go_upto_region 1 with fail
      generalize hg0 : w.heap.size = g0 at *
      have HG0 := Lib.hid hg0
      generalize w.alloc (.cells #[.int .i64 (kk : Int), .int .i64 a, .int .i64 n, .int .i64 p, .int .i64 q] 25) = w1 at *
      clear hg0
      have AL1 := Lib.hid (HAL.out w1 HB.out)
      go_wp2_with fail
      refine AL1.out.mono ?_
      rintro e w2 ⟨rfl, hb⟩
      have HB2 := Lib.hid (HB.out.trans (hb.mono (HG0.out ▸ HB.out.size)))
      have A2 := Lib.hid (A.out.keep hb A.out.lt)
      clear hb HB A AL1 HAL
      have HC := Lib.hid (words_blk w2)
      have HB3 := Lib.hid (HB2.out.alloc (HG0.out ▸ HB2.out.size) (.cells #[.string ⟨#[63]⟩, .string ⟨#[114, 101, 115, 101, 114, 118, 101]⟩, .string ⟨#[97, 100, 106, 117, 115, 116]⟩, .string ⟨#[114, 101, 108, 101, 97, 115, 101]⟩, .string ⟨#[97, 117, 116, 104, 111, 114, 105, 122, 101]⟩, .string ⟨#[108, 97, 98, 101, 108]⟩, .string ⟨#[112, 105, 99, 107]⟩, .string ⟨#[109, 97, 105, 108]⟩, .string ⟨#[114, 101, 99, 101, 105, 112, 116]⟩, .string ⟨#[99, 97, 112, 116, 117, 114, 101]⟩, .string ⟨#[114, 101, 112, 97, 121]⟩, .string ⟨#[100, 105, 115, 112, 97, 116, 99, 104]⟩] 47))
      have A3 := Lib.hid (A2.out.alloc (.cells #[.string ⟨#[63]⟩, .string ⟨#[114, 101, 115, 101, 114, 118, 101]⟩, .string ⟨#[97, 100, 106, 117, 115, 116]⟩, .string ⟨#[114, 101, 108, 101, 97, 115, 101]⟩, .string ⟨#[97, 117, 116, 104, 111, 114, 105, 122, 101]⟩, .string ⟨#[108, 97, 98, 101, 108]⟩, .string ⟨#[112, 105, 99, 107]⟩, .string ⟨#[109, 97, 105, 108]⟩, .string ⟨#[114, 101, 99, 101, 105, 112, 116]⟩, .string ⟨#[99, 97, 112, 116, 117, 114, 101]⟩, .string ⟨#[114, 101, 112, 97, 121]⟩, .string ⟨#[100, 105, 115, 112, 97, 116, 99, 104]⟩] 47))
      go_upto_region 4 with fail
      clear HB2 A2
      generalize hg2 : w2.heap.size = g2 at *
      generalize w2.alloc (.cells #[.string ⟨#[63]⟩, .string ⟨#[114, 101, 115, 101, 114, 118, 101]⟩, .string ⟨#[97, 100, 106, 117, 115, 116]⟩, .string ⟨#[114, 101, 108, 101, 97, 115, 101]⟩, .string ⟨#[97, 117, 116, 104, 111, 114, 105, 122, 101]⟩, .string ⟨#[108, 97, 98, 101, 108]⟩, .string ⟨#[112, 105, 99, 107]⟩, .string ⟨#[109, 97, 105, 108]⟩, .string ⟨#[114, 101, 99, 101, 105, 112, 116]⟩, .string ⟨#[99, 97, 112, 116, 117, 114, 101]⟩, .string ⟨#[114, 101, 112, 97, 121]⟩, .string ⟨#[100, 105, 115, 112, 97, 116, 99, 104]⟩] 47) = w3 at *
      clear hg2
      have ca := A3.out.cell 0
      have hl := Lib.hid A3.out.lt
      have cw := HC.out kk HKK.out
      go_upto_region 7 with fail
      clear ca cw HC
      refine q_begin (by kernel_rfl) (by kernel_rfl) ?_
      repeat (first
        | go_big_quiet_skip
        | ((with_reducible apply q_int); (· rfl); (· rfl); (· exact Tryd.underlying3); (· exact A3.out); (· exact hl.out); (· rfl); (simp only [Act.put, List.setIfInBounds_toArray, List.set_cons_zero, List.set_cons_succ]))
        | ((with_reducible apply q_int); (· rfl); (· rfl); (· exact Tryd.underlying2); (· exact A3.out); (· exact hl.out); (· rfl); (simp only [Act.put, List.setIfInBounds_toArray, List.set_cons_zero, List.set_cons_succ]))
        | ((with_reducible apply q_call 18 (.string (itB a))); (· rfl); (· exact Nat.le_refl _); (· intro w _; exact CA.out w); (· intro w; go_simp); (simp only [Act.put, List.setIfInBounds_toArray, List.set_cons_zero, List.set_cons_succ]))
        | ((with_reducible apply q_call 18 (.string (itB n))); (· rfl); (· exact Nat.le_refl _); (· intro w _; exact CN.out w); (· intro w; go_simp); (simp only [Act.put, List.setIfInBounds_toArray, List.set_cons_zero, List.set_cons_succ]))
        | (go_big_quiet_want; go_big_quiet_op; (first | go_big_quiet_on | (apply Exists.intro; refine ⟨fun _ _ => rfl, ?_⟩; go_big_quiet_on))))
      refine q_end ?_
      intro w4 hb4
      have HB4 := Lib.hid (HB3.out.trans (hb4.mono (HG0.out ▸ HB3.out.size)))
      have A4 := Lib.hid (A3.out.keep hb4 hl.out)
      have ri : w4.rangeAt g0 3 (ints [p, q]) := A4.out.range 3 (ints [p, q]) rfl
      clear hb4 HB3 A3 hl CA CN
      go_wp2_with (first
        | ((with_reducible refine ld_row ri id_row ?_ ?_ ?_); (· rfl); (· rfl); (simp only [Act.put, List.setIfInBounds_toArray, List.set_cons_zero, List.set_cons_succ]))
        | ((with_reducible refine cmp_row id_guard NE.out ?_ ?_ ?_ ?_); (· rfl); (· rfl); (· rfl); (simp only [Act.put, List.setIfInBounds_toArray, List.set_cons_zero, List.set_cons_succ])))
      refine (CI.out _).mono ?_
      rintro e w5 ⟨rfl, hb⟩
      have HB5 := Lib.hid (HB4.out.trans (hb.mono (HG0.out ▸ HB4.out.size)))
      have A5 := Lib.hid (A4.out.keep hb A4.out.lt)
      clear hb HB4 A4 ri CI
      go_upto_region 10 with fail
      have rx : w5.rangeAt g0 0 (ints [(kk : Int), a, n, p, q]) := A5.out.range 0 _ rfl
      have TX1 := Lib.hid (TX.out w5 HB5.out)
      clear TX
      go_wp2_with (first
        | ((with_reducible refine ld_row rx TXE ?_ ?_ ?_); (· rfl); (· rfl); (simp only [Act.put, List.setIfInBounds_toArray, List.set_cons_zero, List.set_cons_succ])))
      refine TX1.out.mono ?_
      rintro e w9 ⟨rfl, hb⟩
      have HB9 := Lib.hid (HB5.out.trans (hb.mono (HG0.out ▸ HB5.out.size)))
      clear hb
      go_wp2_with fail
      go_ret
      have hge := HG0.out
      subst hge
      exact ⟨rfl, HB9.out⟩

theorem texts10_law (v0 : Value) (w : World) (hL : laidMet Tryd.prog Rows.effectTextsRow.laid w) (h0 : Arg Tryd.prog w 25 v0) : Calls Tryd.prog 5 #[v0] w fun e w' => e = .returned (.bool true) ∧ Below w.heap.size w w' := by
  have hT : PTab w := ptab_of hL (l := Rows.effectTextsRow.laid) (List.Mem.tail _ (List.Mem.tail _ (List.Mem.head _)))
  have hW : WTab w := wtab_of hL (l := Rows.effectTextsRow.laid) (List.Mem.tail _ (List.Mem.tail _ (List.Mem.tail _ (List.Mem.head _))))
  obtain ⟨cs, rfl, h2⟩ := h0.flat_struct Tryd.underlying25 flatEf
  obtain ⟨l, h3, h4, h5⟩ := ints_of_ok 5 _ h2
  obtain ⟨k, a, n, p, q, rfl⟩ := row5 h3
  rw [show cs = cs.toList.toArray by simp, h4]
  exact texts10 k a n p q w hT hW (fun z hz => fits_wf (h5 z hz))
end Go.Proofs.YteebmpbplenikaaDoor
