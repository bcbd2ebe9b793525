/- The statement of changes, orders and answers as lines. -/
import Derived.Test.YtaaefkadkciohaaDoorOut6
import Derived.Test.YtaaefkadkciohaaDoorRows
import Derived.Deep.DeepCutAuto
import Derived.Deep.DeepCutAuto
import Derived.Maps.AppendAt
import Derived.Test.YtaaefkadkciohaaDoorRow
import Derived.Test.YtaaefkadkciohaaDoorOps
import Derived.RegionTactic
import Derived.BigRegion
import Derived.ChangeAlike
namespace Go.Proofs.YtaaefkadkciohaaDoor
set_option linter.unusedVariables false
set_option linter.unusedSimpArgs false
open Go.ChangeShapes Go.WideShapes Go.ChangeAt Go.RowKit
theorem words10 (w : World) (i : Nat) (h0 : 1 ≤ i) (hi : i < 10) : (w.alloc (.cells #[.string ⟨#[63]⟩, .string ⟨#[114, 101, 115, 116, 111, 99, 107]⟩, .string ⟨#[100, 101, 112, 111, 115, 105, 116]⟩, .string ⟨#[112, 108, 97, 99, 101]⟩, .string ⟨#[97, 109, 101, 110, 100]⟩, .string ⟨#[99, 97, 110, 99, 101, 108]⟩, .string ⟨#[112, 97, 121]⟩, .string ⟨#[115, 104, 105, 112]⟩, .string ⟨#[114, 101, 102, 117, 110, 100]⟩, .string ⟨#[112, 114, 105, 99, 101]⟩] 32)).cell? ⟨w.heap.size, i, none⟩ = some (.string (bwB i)) := by
  rw [(Blk.new w #[.string ⟨#[63]⟩, .string ⟨#[114, 101, 115, 116, 111, 99, 107]⟩, .string ⟨#[100, 101, 112, 111, 115, 105, 116]⟩, .string ⟨#[112, 108, 97, 99, 101]⟩, .string ⟨#[97, 109, 101, 110, 100]⟩, .string ⟨#[99, 97, 110, 99, 101, 108]⟩, .string ⟨#[112, 97, 121]⟩, .string ⟨#[115, 104, 105, 112]⟩, .string ⟨#[114, 101, 102, 117, 110, 100]⟩, .string ⟨#[112, 114, 105, 99, 101]⟩] 32).cell i]
  rcases i with _ | _ | _ | _ | _ | _ | _ | _ | _ | _ | i
  all_goals first | rfl | omega
theorem nums1 (c : Int) : ⟨#[101, 114, 114, 111, 114]⟩ ++ numsB [c] = ⟨#[101, 114, 114, 111, 114, 32]⟩ ++ itB c := by
  rw [itB_eq]
  show (⟨([101, 114, 114, 111, 114] : List UInt8).toArray⟩ : ByteArray) ++ ⟨(numsL [c]).toArray⟩ = ⟨([101, 114, 114, 111, 114, 32] : List UInt8).toArray⟩ ++ ⟨(Lib.itoa c).toArray⟩
  simp only [ba_app]
  simp [numsL]
theorem ch_sz : (Tryd.prog.info? 25).map (·.size) = some 9 := by kernel_rfl
theorem ow_sz : (Tryd.prog.info? 27).map (·.size) = some 7 := by kernel_rfl
theorem aw_sz : (Tryd.prog.info? 30).map (·.size) = some 3 := by kernel_rfl
theorem wordC_size (k : Int) : (wordC k).size ≤ 7 := by
  unfold wordC
  split
  · exact bwB_size _
  · decide
set_option maxRecDepth 100000 in
set_option maxHeartbeats 8000000 in
theorem changes39 (p q t k a b n p2 q2 p0 q0 bu it qt co st c m1 m2 : Int) (w : World) (hf : ∀ z ∈ [p, q, t, k, a, b, n, p2, q2], fits z = true) (ho : ∀ z ∈ [p0, q0, bu, it, qt, co, st], fits z = true) (ha : ∀ z ∈ [c, m1, m2], fits z = true) (hT : PTab w) (hBk : STab 1 bookW w) (hS : STab 0 stW w) : Calls Tryd.prog 3 #[.agg #[.int .i64 p, .int .i64 q, .int .i64 t, .int .i64 k, .int .i64 a, .int .i64 b, .int .i64 n, .int .i64 p2, .int .i64 q2], .agg #[.int .i64 p0, .int .i64 q0, .int .i64 bu, .int .i64 it, .int .i64 qt, .int .i64 co, .int .i64 st], .agg #[.int .i64 c, .int .i64 m1, .int .i64 m2]] w fun e w' => e = .returned (.bool true) ∧ Below w.heap.size w w' := by
  have hfp := hf p (by simp)
  have hfq := hf q (by simp)
  have hft := hf t (by simp)
  have hfp2 := hf p2 (by simp)
  have hfq2 := hf q2 (by simp)
  have hfc := ha c (by simp)
  have hf3 : ∀ z ∈ [a, b, n], fits z = true := fun z hz => hf z (by simp at hz ⊢; rcases hz with h | h | h <;> simp [h])
  have hf2 : ∀ z ∈ [m1, m2], fits z = true := fun z hz => ha z (List.mem_cons_of_mem _ hz)
  have s1 := idB_small p q hfp hfq
  have s2 := itB_small t hft
  have s3 := idB_small p2 q2 hfp2 hfq2
  have s4 := numsB_size hf3
  have s6 := numsB_size hf2
  have s7 := itB_small c hfc
  have s5 := wordC_size k
  simp only [List.length_cons, List.length_nil] at s4 s6
  have HB := Lib.hid ((((Below.refl w.heap.size w).alloc (Nat.le_refl _) (.cells #[.int .i64 p, .int .i64 q, .int .i64 t, .int .i64 k, .int .i64 a, .int .i64 b, .int .i64 n, .int .i64 p2, .int .i64 q2] 25)).alloc (by simp) (.cells #[.int .i64 p0, .int .i64 q0, .int .i64 bu, .int .i64 it, .int .i64 qt, .int .i64 co, .int .i64 st] 27)).alloc (by simp; omega) (.cells #[.int .i64 c, .int .i64 m1, .int .i64 m2] 30))
  have A : Hid (Blk (((w.alloc (.cells #[.int .i64 p, .int .i64 q, .int .i64 t, .int .i64 k, .int .i64 a, .int .i64 b, .int .i64 n, .int .i64 p2, .int .i64 q2] 25)).alloc (.cells #[.int .i64 p0, .int .i64 q0, .int .i64 bu, .int .i64 it, .int .i64 qt, .int .i64 co, .int .i64 st] 27)).alloc (.cells #[.int .i64 c, .int .i64 m1, .int .i64 m2] 30)) w.heap.size (#[.int .i64 p, .int .i64 q, .int .i64 t, .int .i64 k, .int .i64 a, .int .i64 b, .int .i64 n, .int .i64 p2, .int .i64 q2] : Array Value).toList 25) := Lib.hid (((Blk.new w #[.int .i64 p, .int .i64 q, .int .i64 t, .int .i64 k, .int .i64 a, .int .i64 b, .int .i64 n, .int .i64 p2, .int .i64 q2] 25).alloc _).alloc _)
  have B : Hid (Blk (((w.alloc (.cells #[.int .i64 p, .int .i64 q, .int .i64 t, .int .i64 k, .int .i64 a, .int .i64 b, .int .i64 n, .int .i64 p2, .int .i64 q2] 25)).alloc (.cells #[.int .i64 p0, .int .i64 q0, .int .i64 bu, .int .i64 it, .int .i64 qt, .int .i64 co, .int .i64 st] 27)).alloc (.cells #[.int .i64 c, .int .i64 m1, .int .i64 m2] 30)) (w.heap.size + 1) (#[.int .i64 p0, .int .i64 q0, .int .i64 bu, .int .i64 it, .int .i64 qt, .int .i64 co, .int .i64 st] : Array Value).toList 27) := Lib.hid (by have := (Blk.new (w.alloc (.cells #[.int .i64 p, .int .i64 q, .int .i64 t, .int .i64 k, .int .i64 a, .int .i64 b, .int .i64 n, .int .i64 p2, .int .i64 q2] 25)) #[.int .i64 p0, .int .i64 q0, .int .i64 bu, .int .i64 it, .int .i64 qt, .int .i64 co, .int .i64 st] 27).alloc (.cells #[.int .i64 c, .int .i64 m1, .int .i64 m2] 30); simpa using this)
  have D : Hid (Blk (((w.alloc (.cells #[.int .i64 p, .int .i64 q, .int .i64 t, .int .i64 k, .int .i64 a, .int .i64 b, .int .i64 n, .int .i64 p2, .int .i64 q2] 25)).alloc (.cells #[.int .i64 p0, .int .i64 q0, .int .i64 bu, .int .i64 it, .int .i64 qt, .int .i64 co, .int .i64 st] 27)).alloc (.cells #[.int .i64 c, .int .i64 m1, .int .i64 m2] 30)) (w.heap.size + 2) (#[.int .i64 c, .int .i64 m1, .int .i64 m2] : Array Value).toList 30) := Lib.hid (by have := Blk.new ((w.alloc (.cells #[.int .i64 p, .int .i64 q, .int .i64 t, .int .i64 k, .int .i64 a, .int .i64 b, .int .i64 n, .int .i64 p2, .int .i64 q2] 25)).alloc (.cells #[.int .i64 p0, .int .i64 q0, .int .i64 bu, .int .i64 it, .int .i64 qt, .int .i64 co, .int .i64 st] 27)) #[.int .i64 c, .int .i64 m1, .int .i64 m2] 30; simpa using this)
  have HAL := Lib.hid (fun w' (hb : Below w.heap.size w w') => alive39 w' (hT.keep hb) (hBk.keep hb) (hS.keep hb))
  obtain ⟨CB, hCB⟩ : ∃ CB, CB = chB p q t k a b n p2 q2 := ⟨_, rfl⟩
  obtain ⟨OB, hOB⟩ : ∃ OB, OB = ordB p0 q0 bu it qt co st := ⟨_, rfl⟩
  have CC0 := Lib.hid (fun w' (hb : Below w.heap.size w w') => show Calls Tryd.prog 10 #[.agg (#[.int .i64 p, .int .i64 q, .int .i64 t, .int .i64 k, .int .i64 a, .int .i64 b, .int .i64 n, .int .i64 p2, .int .i64 q2] : Array Value).toList.toArray] w' _ from change_any p q t k a b n p2 q2 w' hf (hT.keep hb) (hBk.keep hb))
  have CO0 := Lib.hid (fun w' (hb : Below w.heap.size w w') => show Calls Tryd.prog 11 #[.agg (#[.int .i64 p0, .int .i64 q0, .int .i64 bu, .int .i64 it, .int .i64 qt, .int .i64 co, .int .i64 st] : Array Value).toList.toArray] w' _ from order_any p0 q0 bu it qt co st w' ho (hT.keep hb) (hS.keep hb))
  have CR0 := Lib.hid (fun w' (hb : Below w.heap.size w w') => show Calls Tryd.prog 12 #[.agg (#[.int .i64 p0, .int .i64 q0, .int .i64 bu, .int .i64 it, .int .i64 qt, .int .i64 co, .int .i64 st] : Array Value).toList.toArray] w' _ from rorder_any p0 q0 bu it qt co st w' ho (hT.keep hb) (hS.keep hb))
  have CA0 := Lib.hid (fun w' (hb : Below w.heap.size w w') => show Calls Tryd.prog 13 #[.agg (#[.int .i64 c, .int .i64 m1, .int .i64 m2] : Array Value).toList.toArray] w' _ from answer_any c m1 m2 w' ha (hT.keep hb))
  obtain ⟨TB, hTB⟩ : ∃ TB : ByteArray, TB = (if c = 0 then ⟨#[111, 107]⟩ else ⟨#[101, 114, 114, 111, 114, 32]⟩ ++ itB c) := ⟨_, rfl⟩
  have hAN : ansB c m1 m2 = TB ++ numsB [m1, m2] := by
    rw [hTB]
    unfold ansB
    split
    · rfl
    · rw [nums1]
  have s8 : TB.size ≤ 27 := by
    rw [hTB]
    split
    · decide
    · rw [ByteArray.size_append]; show 6 + _ ≤ 27; omega
  rw [hAN] at CA0
  rw [← hCB] at CC0
  rw [← hOB] at CO0 CR0
  have CI := Lib.hid (fun w' => show Calls Tryd.prog 7 #[.agg (ints [p, q]).toArray] w' _ from ridtext_any p q w' hfp hfq)
  have CT := Lib.hid (fun w' => decB t w' hft)
  have CJ := Lib.hid (fun w' => ridtext_any p2 q2 w' hfp2 hfq2)
  have CD := Lib.hid (fun w' => decB c w' hfc)
  have DM := Lib.hid (fun a' c' w' (h : Sl w' a' 3 1 (ints [a, b, n])) => decimals_any a' 3 c' [a, b, n] w' h (by decide) hf3)
  have DN := Lib.hid (fun a' c' w' (h : Sl w' a' 2 1 (ints [m1, m2])) => decimals_any a' 2 c' [m1, m2] w' h (by decide) hf2)
  have HNE := Lib.hid (id_ne hfp2 hfq2)
  have HWW := Lib.hid (show wordC k = if 1 ≤ k ∧ k ≤ 9 then bwB k.toNat else ⟨#[63]⟩ from rfl)
  have HTB := Lib.hid hTB
  obtain ⟨P1, hP1⟩ : ∃ P1 : ByteArray, P1 = idB p q ++ ⟨#[32, 64]⟩ := ⟨_, rfl⟩
  obtain ⟨P2, hP2⟩ : ∃ P2 : ByteArray, P2 = P1 ++ itB t := ⟨_, rfl⟩
  obtain ⟨P3, hP3⟩ : ∃ P3 : ByteArray, P3 = P2 ++ ⟨#[32]⟩ := ⟨_, rfl⟩
  obtain ⟨P4, hP4⟩ : ∃ P4 : ByteArray, P4 = P3 ++ wordC k := ⟨_, rfl⟩
  obtain ⟨P5, hP5⟩ : ∃ P5 : ByteArray, P5 = P4 ++ numsB [a, b, n] := ⟨_, rfl⟩
  have z1 : P1.size ≤ 45 := by rw [hP1, ByteArray.size_append]; show _ + 2 ≤ 45; omega
  have z2 : P2.size ≤ 66 := by rw [hP2, ByteArray.size_append]; omega
  have z3 : P3.size ≤ 67 := by rw [hP3, ByteArray.size_append]; show _ + 1 ≤ 67; omega
  have z4 : P4.size ≤ 74 := by rw [hP4, ByteArray.size_append]; omega
  have z5 : P5.size ≤ 140 := by rw [hP5, ByteArray.size_append]; omega
  have HCB : Hid (CB = if p2 = 0 ∧ q2 = 0 then P5 else P5 ++ ⟨#[32]⟩ ++ idB p2 q2) := Lib.hid (by
    rw [hCB]
    unfold chB
    rw [← hP1, ← hP2, ← hP3, ← hP4, ← hP5]
    by_cases hz : p2 = 0 ∧ q2 = 0
    · rw [if_pos hz]; exact (if_pos hz).symm
    · rw [if_neg hz, ByteArray.append_assoc (b := ⟨#[32]⟩) (c := idB p2 q2)]; exact (if_neg hz).symm)
  have HP1 := Lib.hid hP1
  have HP2 := Lib.hid hP2
  have HP3 := Lib.hid hP3
  have HP4 := Lib.hid hP4
  have HP5 := Lib.hid hP5
  clear hf ho ha hT hBk hS hfp hfq hft hfp2 hfq2 hfc hf3 hf2 hCB hOB hTB hAN
  clear hP1 hP2 hP3 hP4 hP5
  have hs1 : (idB p q).size + (⟨#[32, 64]⟩ : ByteArray).size ≤ 100000 := by show _ + 2 ≤ _; omega
  have hs2 : P1.size + (itB t).size ≤ 100000 := by omega
  have hs3 : P2.size + (⟨#[32]⟩ : ByteArray).size ≤ 100000 := by show _ + 1 ≤ _; omega
  have hs4 : P3.size + (wordC k).size ≤ 100000 := by omega
  have hs5 : P4.size + (numsB [a, b, n]).size ≤ 100000 := by omega
  have hs6 : TB.size + (numsB [m1, m2]).size ≤ 100000 := by omega
  generalize wordC k = WW at *
  generalize numsB [a, b, n] = NB at *
  generalize numsB [m1, m2] = N2 at *
  generalize idB p2 q2 = IB at *
  go_enter Tryd.func3, Tryd.ntmps3
  go_upto_region 1 with fail
  generalize hg0 : w.heap.size = g0 at *
  have HG0 := Lib.hid hg0
  generalize (((w.alloc (.cells #[.int .i64 p, .int .i64 q, .int .i64 t, .int .i64 k, .int .i64 a, .int .i64 b, .int .i64 n, .int .i64 p2, .int .i64 q2] 25)).alloc (.cells #[.int .i64 p0, .int .i64 q0, .int .i64 bu, .int .i64 it, .int .i64 qt, .int .i64 co, .int .i64 st] 27)).alloc (.cells #[.int .i64 c, .int .i64 m1, .int .i64 m2] 30)) = w1 at *
  clear hg0
  have AL1 := Lib.hid (HAL.out w1 HB.out)
  go_wp2_with fail
  refine AL1.out.mono ?_
  rintro e w2 ⟨rfl, hb⟩
  have HB2 := Lib.hid (HB.out.trans (hb.mono (HG0.out ▸ HB.out.size)))
  have A2 := Lib.hid (A.out.keep hb A.out.lt)
  have B2 := Lib.hid (B.out.keep hb B.out.lt)
  have D2 := Lib.hid (D.out.keep hb D.out.lt)
  clear hb HB A B D AL1 HAL
  have HC := Lib.hid (words10 w2)
  have HB3 := Lib.hid (HB2.out.alloc (HG0.out ▸ HB2.out.size) (.cells #[.string ⟨#[63]⟩, .string ⟨#[114, 101, 115, 116, 111, 99, 107]⟩, .string ⟨#[100, 101, 112, 111, 115, 105, 116]⟩, .string ⟨#[112, 108, 97, 99, 101]⟩, .string ⟨#[97, 109, 101, 110, 100]⟩, .string ⟨#[99, 97, 110, 99, 101, 108]⟩, .string ⟨#[112, 97, 121]⟩, .string ⟨#[115, 104, 105, 112]⟩, .string ⟨#[114, 101, 102, 117, 110, 100]⟩, .string ⟨#[112, 114, 105, 99, 101]⟩] 32))
  have A3 := Lib.hid (A2.out.alloc (.cells #[.string ⟨#[63]⟩, .string ⟨#[114, 101, 115, 116, 111, 99, 107]⟩, .string ⟨#[100, 101, 112, 111, 115, 105, 116]⟩, .string ⟨#[112, 108, 97, 99, 101]⟩, .string ⟨#[97, 109, 101, 110, 100]⟩, .string ⟨#[99, 97, 110, 99, 101, 108]⟩, .string ⟨#[112, 97, 121]⟩, .string ⟨#[115, 104, 105, 112]⟩, .string ⟨#[114, 101, 102, 117, 110, 100]⟩, .string ⟨#[112, 114, 105, 99, 101]⟩] 32))
  have B3 := Lib.hid (B2.out.alloc (.cells #[.string ⟨#[63]⟩, .string ⟨#[114, 101, 115, 116, 111, 99, 107]⟩, .string ⟨#[100, 101, 112, 111, 115, 105, 116]⟩, .string ⟨#[112, 108, 97, 99, 101]⟩, .string ⟨#[97, 109, 101, 110, 100]⟩, .string ⟨#[99, 97, 110, 99, 101, 108]⟩, .string ⟨#[112, 97, 121]⟩, .string ⟨#[115, 104, 105, 112]⟩, .string ⟨#[114, 101, 102, 117, 110, 100]⟩, .string ⟨#[112, 114, 105, 99, 101]⟩] 32))
  have D3 := Lib.hid (D2.out.alloc (.cells #[.string ⟨#[63]⟩, .string ⟨#[114, 101, 115, 116, 111, 99, 107]⟩, .string ⟨#[100, 101, 112, 111, 115, 105, 116]⟩, .string ⟨#[112, 108, 97, 99, 101]⟩, .string ⟨#[97, 109, 101, 110, 100]⟩, .string ⟨#[99, 97, 110, 99, 101, 108]⟩, .string ⟨#[112, 97, 121]⟩, .string ⟨#[115, 104, 105, 112]⟩, .string ⟨#[114, 101, 102, 117, 110, 100]⟩, .string ⟨#[112, 114, 105, 99, 101]⟩] 32))
  go_upto_region 4 with fail
  clear HB2 A2 B2 D2
  generalize hg2 : w2.heap.size = g2 at *
  generalize w2.alloc (.cells #[.string ⟨#[63]⟩, .string ⟨#[114, 101, 115, 116, 111, 99, 107]⟩, .string ⟨#[100, 101, 112, 111, 115, 105, 116]⟩, .string ⟨#[112, 108, 97, 99, 101]⟩, .string ⟨#[97, 109, 101, 110, 100]⟩, .string ⟨#[99, 97, 110, 99, 101, 108]⟩, .string ⟨#[112, 97, 121]⟩, .string ⟨#[115, 104, 105, 112]⟩, .string ⟨#[114, 101, 102, 117, 110, 100]⟩, .string ⟨#[112, 114, 105, 99, 101]⟩] 32) = w3 at *
  clear hg2
  obtain ⟨KN, hKN⟩ : ∃ KN, KN = decide (1 ≤ k ∧ k ≤ 9) := ⟨_, rfl⟩
  have HKN := Lib.hid hKN
  clear hKN
  go_upto_region 5 with fail
  go_cut [21] (fun s21 wx => s21 = .bool KN ∧ w3 = wx)
  case first =>
    have ck := A3.out.cell 3
    by_cases h1 : 1 ≤ k
    · by_cases h2 : k ≤ 9
      · have HK : Hid (KN = true) := Lib.hid (by rw [HKN.out]; exact decide_eq_true ⟨h1, h2⟩)
        go_wp2_with fail
        go_meet
        exact ⟨by rw [HK.out], rfl⟩
      · have HK : Hid (KN = false) := Lib.hid (by rw [HKN.out]; exact decide_eq_false (fun h => h2 h.2))
        have h2b : decide (k ≤ 9) = false := decide_eq_false h2
        go_wp2_with fail
        go_meet
        exact ⟨by rw [HK.out], rfl⟩
    · have HK : Hid (KN = false) := Lib.hid (by rw [HKN.out]; exact decide_eq_false (fun h => h1 h.1))
      have h1b : decide (1 ≤ k) = false := decide_eq_false h1
      go_wp2_with fail
      go_meet
      exact ⟨by rw [HK.out], rfl⟩
  case rest =>
   obtain ⟨rfl, rfl⟩ := hcut
   go_upto_if 21 with fail
   go_cut [8] (fun s8 wx => s8 = .string WW ∧ w3 = wx)
   case first =>
    have ck := A3.out.cell 3
    cases KN
    · have HW : Hid (WW = ⟨#[63]⟩) := Lib.hid (by rw [HWW.out, if_neg (of_decide_eq_false HKN.out.symm)])
      go_wp2_with fail
      go_meet
      exact ⟨by rw [HW.out], rfl⟩
    · have hkk := of_decide_eq_true HKN.out.symm
      obtain ⟨kk, hkn⟩ : ∃ kk : Nat, (kk : Int) = k := ⟨k.toNat, by omega⟩
      have HW : Hid (WW = bwB kk) := Lib.hid (by rw [HWW.out, if_pos hkk, show k.toNat = kk by omega])
      have cw := HC.out kk (by omega) (by omega)
      have hk0 : (0 : Int) ≤ kk := by omega
      have hk1 : (kk : Int) < 10 := by omega
      clear hkk
      subst hkn
      go_wp2_with fail
      go_meet
      exact ⟨by rw [HW.out], rfl⟩
   case rest =>
    obtain ⟨rfl, rfl⟩ := hcut
    clear HC HKN HWW
    go_upto_region 7 with fail
    go_cut [9] (fun s9 wx => s9 = .string P5 ∧ Hid (Below w3.heap.size w3 wx))
    case first =>
      refine held_begin (fun w' => Below w3.heap.size w3 w') 21 [false, false, false, false, false, false, false, false, false, false, false, false, false, false, false, false, false, false, false, false, false] (by kernel_rfl) rfl (by rfl) ?_
      have hHeld : Below w3.heap.size w3 w3.drew := (Below.refl _ _).drew
      refine held_take (v := ?_) 0 26 [true, false, false, false, false, false, false, false, false, false, false, false, false, false, false, false, false, false, false, false, false] rfl (by rfl) (by rfl) (by kernel_rfl) (by kernel_rfl) (by kernel_rfl) (by rfl) (fun _ _ _ h => h) ?_ hHeld ?_
      rotate_left
      · intro w hSw; go_simp <;> with_reducible rfl
      simp only [Act.put, List.setIfInBounds_toArray, List.set_cons_zero, List.set_cons_succ]
      refine held_take (v := .agg (ints [p, q]).toArray) 1 27 [true, true, false, false, false, false, false, false, false, false, false, false, false, false, false, false, false, false, false, false, false] rfl (by rfl) (by rfl) (by kernel_rfl) (by kernel_rfl) (by kernel_rfl) (by rfl) (fun _ _ _ h => h) (fun w' h => run_op_load rfl rfl ((A3.out.keep h A3.out.lt).range 0 (ints [p, q]) rfl) Tryd.underlying23 rfl id_row.2) hHeld ?_
      simp only [Act.put, List.setIfInBounds_toArray, List.set_cons_zero, List.set_cons_succ]
      refine held_take (v := ?_) 4 30 [true, true, false, false, true, false, false, false, false, false, false, false, false, false, false, false, false, false, false, false, false] rfl (by rfl) (by rfl) (by kernel_rfl) (by kernel_rfl) (by kernel_rfl) (by rfl) (fun _ _ _ h => h) ?_ hHeld ?_
      rotate_left
      · intro w hSw; go_simp <;> with_reducible rfl
      simp only [Act.put, List.setIfInBounds_toArray, List.set_cons_zero, List.set_cons_succ]
      refine held_take (v := .int .i64 t) 5 31 [true, true, false, false, true, true, false, false, false, false, false, false, false, false, false, false, false, false, false, false, false] rfl (by rfl) (by rfl) (by kernel_rfl) (by kernel_rfl) (by kernel_rfl) (by rfl) (fun _ _ _ h => h) (fun w' h => run_op_one rfl rfl Tryd.underlying3 rfl ((A3.out.keep h A3.out.lt).cell 2)) hHeld ?_
      simp only [Act.put, List.setIfInBounds_toArray, List.set_cons_zero, List.set_cons_succ]
      refine held_take (v := ?_) 9 35 [true, true, false, false, true, true, false, false, false, true, false, false, false, false, false, false, false, false, false, false, false] rfl (by rfl) (by rfl) (by kernel_rfl) (by kernel_rfl) (by kernel_rfl) (by rfl) (fun _ _ _ h => h) ?_ hHeld ?_
      rotate_left
      · intro w hSw; go_simp <;> with_reducible rfl
      simp only [Act.put, List.setIfInBounds_toArray, List.set_cons_zero, List.set_cons_succ]
      refine held_take (v := ?_) 11 37 [true, true, false, false, true, true, false, false, false, true, false, true, false, false, false, false, false, false, false, false, false] rfl (by rfl) (by rfl) (by kernel_rfl) (by kernel_rfl) (by kernel_rfl) (by rfl) (fun _ _ _ h => h) ?_ hHeld ?_
      rotate_left
      · intro w hSw; go_simp <;> with_reducible rfl
      simp only [Act.put, List.setIfInBounds_toArray, List.set_cons_zero, List.set_cons_succ]
      refine held_take (v := .int .i64 a) 12 38 [true, true, false, false, true, true, false, false, false, true, false, true, true, false, false, false, false, false, false, false, false] rfl (by rfl) (by rfl) (by kernel_rfl) (by kernel_rfl) (by kernel_rfl) (by rfl) (fun _ _ _ h => h) (fun w' h => run_op_one rfl rfl Tryd.underlying3 rfl ((A3.out.keep h A3.out.lt).cell 4)) hHeld ?_
      simp only [Act.put, List.setIfInBounds_toArray, List.set_cons_zero, List.set_cons_succ]
      refine held_take (v := ?_) 13 39 [true, true, false, false, true, true, false, false, false, true, false, true, true, true, false, false, false, false, false, false, false] rfl (by rfl) (by rfl) (by kernel_rfl) (by kernel_rfl) (by kernel_rfl) (by rfl) (fun _ _ _ h => h) ?_ hHeld ?_
      rotate_left
      · intro w hSw; go_simp <;> with_reducible rfl
      simp only [Act.put, List.setIfInBounds_toArray, List.set_cons_zero, List.set_cons_succ]
      refine held_take (v := .int .i64 b) 14 40 [true, true, false, false, true, true, false, false, false, true, false, true, true, true, true, false, false, false, false, false, false] rfl (by rfl) (by rfl) (by kernel_rfl) (by kernel_rfl) (by kernel_rfl) (by rfl) (fun _ _ _ h => h) (fun w' h => run_op_one rfl rfl Tryd.underlying3 rfl ((A3.out.keep h A3.out.lt).cell 5)) hHeld ?_
      simp only [Act.put, List.setIfInBounds_toArray, List.set_cons_zero, List.set_cons_succ]
      refine held_take (v := ?_) 15 41 [true, true, false, false, true, true, false, false, false, true, false, true, true, true, true, true, false, false, false, false, false] rfl (by rfl) (by rfl) (by kernel_rfl) (by kernel_rfl) (by kernel_rfl) (by rfl) (fun _ _ _ h => h) ?_ hHeld ?_
      rotate_left
      · intro w hSw; go_simp <;> with_reducible rfl
      simp only [Act.put, List.setIfInBounds_toArray, List.set_cons_zero, List.set_cons_succ]
      refine held_take (v := .int .i64 n) 16 42 [true, true, false, false, true, true, false, false, false, true, false, true, true, true, true, true, true, false, false, false, false] rfl (by rfl) (by rfl) (by kernel_rfl) (by kernel_rfl) (by kernel_rfl) (by rfl) (fun _ _ _ h => h) (fun w' h => run_op_one rfl rfl Tryd.underlying2 rfl ((A3.out.keep h A3.out.lt).cell 6)) hHeld ?_
      simp only [Act.put, List.setIfInBounds_toArray, List.set_cons_zero, List.set_cons_succ]
      refine held_two 2 17 (by kernel_rfl) ?_ ?_
      · refine op_call 28 [true, true, true, false, true, true, false, false, false, true, false, true, true, true, true, true, true, false, false, false, false] rfl (by rfl) (by rfl) (by rfl) (by go_simp) ((CI.out _).mono ?_)
        rintro e w4 ⟨rfl, hb4⟩
        refine ⟨_, rfl, hHeld.trans (hb4.mono hHeld.size), fun hHeld => ?_⟩
        simp only [Act.put, List.setIfInBounds_toArray, List.set_cons_zero, List.set_cons_succ]
        refine held_take (v := .string P1) 3 29 [true, true, true, true, true, true, false, false, false, true, false, true, true, true, true, true, true, false, false, false, false] rfl (by rfl) (by rfl) (by kernel_rfl) (by kernel_rfl) (by kernel_rfl) (by rfl) (fun _ _ _ h => h) (fun w' h => by rw [HP1.out]; exact run_op_adds rfl rfl rfl hs1) hHeld ?_
        simp only [Act.put, List.setIfInBounds_toArray, List.set_cons_zero, List.set_cons_succ]
        refine held_two 6 17 (by kernel_rfl) ?_ ?_
        · refine op_call 32 [true, true, true, true, true, true, true, false, false, true, false, true, true, true, true, true, true, false, false, false, false] rfl (by rfl) (by rfl) (by rfl) (by go_simp) ((CT.out _).mono ?_)
          rintro e w5 ⟨rfl, hb5⟩
          refine ⟨_, rfl, hHeld.trans (hb5.mono hHeld.size), fun hHeld => ?_⟩
          simp only [Act.put, List.setIfInBounds_toArray, List.set_cons_zero, List.set_cons_succ]
          refine held_take (v := .string P2) 7 33 [true, true, true, true, true, true, true, true, false, true, false, true, true, true, true, true, true, false, false, false, false] rfl (by rfl) (by rfl) (by kernel_rfl) (by kernel_rfl) (by kernel_rfl) (by rfl) (fun _ _ _ h => h) (fun w' h => by rw [HP2.out]; exact run_op_adds rfl rfl rfl hs2) hHeld ?_
          simp only [Act.put, List.setIfInBounds_toArray, List.set_cons_zero, List.set_cons_succ]
          refine held_take (v := .string P3) 8 34 [true, true, true, true, true, true, true, true, true, true, false, true, true, true, true, true, true, false, false, false, false] rfl (by rfl) (by rfl) (by kernel_rfl) (by kernel_rfl) (by kernel_rfl) (by rfl) (fun _ _ _ h => h) (fun w' h => by rw [HP3.out]; exact run_op_adds rfl rfl rfl hs3) hHeld ?_
          simp only [Act.put, List.setIfInBounds_toArray, List.set_cons_zero, List.set_cons_succ]
          refine held_take (v := .string P4) 10 36 [true, true, true, true, true, true, true, true, true, true, true, true, true, true, true, true, true, false, false, false, false] rfl (by rfl) (by rfl) (by kernel_rfl) (by kernel_rfl) (by kernel_rfl) (by rfl) (fun _ _ _ h => h) (fun w' h => by rw [HP4.out]; exact run_op_adds rfl rfl rfl hs4) hHeld ?_
          simp only [Act.put, List.setIfInBounds_toArray, List.set_cons_zero, List.set_cons_succ]
          have hal := (Below.refl w5.heap.size w5).alloc (Nat.le_refl _) (.cells #[.int .i64 a, .int .i64 b, .int .i64 n] 2)
          have hsl := sl_lit w5 2 [a, b, n] (by simp)
          refine held_one 17 (by kernel_rfl) ?_
          refine op_value (v := .slice (some ⟨w5.heap.size, 0, none⟩) 3 3) 43 [true, true, true, true, true, true, true, true, true, true, true, true, true, true, true, true, true, true, false, false, false] rfl (by rfl) (by rfl) (by rfl) (by go_simp <;> rfl) (hHeld.trans (hal.mono hHeld.size)) fun hHeld => ?_
          simp only [Act.put, List.setIfInBounds_toArray, List.set_cons_zero, List.set_cons_succ]
          refine held_call 18 44 [true, true, true, true, true, true, true, true, true, true, true, true, true, true, true, true, true, true, true, false, false] (by kernel_rfl) rfl (by rfl) (by rfl) (by rfl) (by go_simp) ((DM.out _ 3 _ hsl).mono ?_)
          rintro e w9 ⟨rfl, hb9⟩
          refine ⟨_, rfl, hHeld.trans (hb9.mono hHeld.size), fun hHeld => ?_⟩
          simp only [Act.put, List.setIfInBounds_toArray, List.set_cons_zero, List.set_cons_succ]
          refine held_take (v := .string P5) 19 45 [true, true, true, true, true, true, true, true, true, true, true, true, true, true, true, true, true, true, true, true, false] rfl (by rfl) (by rfl) (by kernel_rfl) (by kernel_rfl) (by kernel_rfl) (by rfl) (fun _ _ _ h => h) (fun w' h => by rw [HP5.out]; exact run_op_adds rfl rfl rfl hs5) hHeld ?_
          simp only [Act.put, List.setIfInBounds_toArray, List.set_cons_zero, List.set_cons_succ]
          refine held_take (v := ?_) 20 9 [true, true, true, true, true, true, true, true, true, true, true, true, true, true, true, true, true, true, true, true, true] rfl (by rfl) (by rfl) (by kernel_rfl) (by kernel_rfl) (by kernel_rfl) (by rfl) (fun _ _ _ h => h) ?_ hHeld ?_
          rotate_left
          · intro w hSw; go_simp <;> with_reducible rfl
          simp only [Act.put, List.setIfInBounds_toArray, List.set_cons_zero, List.set_cons_succ]
          refine held_done (by kernel_rfl) ?_
          go_wp2_with fail
          go_meet
          exact ⟨rfl, Lib.hid hHeld⟩
        · have hal := (Below.refl w4.heap.size w4).alloc (Nat.le_refl _) (.cells #[.int .i64 a, .int .i64 b, .int .i64 n] 2)
          have hsl := sl_lit w4 2 [a, b, n] (by simp)
          refine op_value (v := .slice (some ⟨w4.heap.size, 0, none⟩) 3 3) 43 [true, true, true, true, true, true, false, false, false, true, false, true, true, true, true, true, true, true, false, false, false] rfl (by rfl) (by rfl) (by rfl) (by go_simp <;> rfl) (hHeld.trans (hal.mono hHeld.size)) fun hHeld => ?_
          simp only [Act.put, List.setIfInBounds_toArray, List.set_cons_zero, List.set_cons_succ]
          refine held_call 6 32 [true, true, true, true, true, true, true, false, false, true, false, true, true, true, true, true, true, true, false, false, false] (by kernel_rfl) rfl (by rfl) (by rfl) (by rfl) (by go_simp) ((CT.out _).mono ?_)
          rintro e w5 ⟨rfl, hb5⟩
          refine ⟨_, rfl, hHeld.trans (hb5.mono hHeld.size), fun hHeld => ?_⟩
          simp only [Act.put, List.setIfInBounds_toArray, List.set_cons_zero, List.set_cons_succ]
          have hsl5 := hsl.keep hb5
          refine held_take (v := .string P2) 7 33 [true, true, true, true, true, true, true, true, false, true, false, true, true, true, true, true, true, true, false, false, false] rfl (by rfl) (by rfl) (by kernel_rfl) (by kernel_rfl) (by kernel_rfl) (by rfl) (fun _ _ _ h => h) (fun w' h => by rw [HP2.out]; exact run_op_adds rfl rfl rfl hs2) hHeld ?_
          simp only [Act.put, List.setIfInBounds_toArray, List.set_cons_zero, List.set_cons_succ]
          refine held_take (v := .string P3) 8 34 [true, true, true, true, true, true, true, true, true, true, false, true, true, true, true, true, true, true, false, false, false] rfl (by rfl) (by rfl) (by kernel_rfl) (by kernel_rfl) (by kernel_rfl) (by rfl) (fun _ _ _ h => h) (fun w' h => by rw [HP3.out]; exact run_op_adds rfl rfl rfl hs3) hHeld ?_
          simp only [Act.put, List.setIfInBounds_toArray, List.set_cons_zero, List.set_cons_succ]
          refine held_take (v := .string P4) 10 36 [true, true, true, true, true, true, true, true, true, true, true, true, true, true, true, true, true, true, false, false, false] rfl (by rfl) (by rfl) (by kernel_rfl) (by kernel_rfl) (by kernel_rfl) (by rfl) (fun _ _ _ h => h) (fun w' h => by rw [HP4.out]; exact run_op_adds rfl rfl rfl hs4) hHeld ?_
          simp only [Act.put, List.setIfInBounds_toArray, List.set_cons_zero, List.set_cons_succ]
          refine held_call 18 44 [true, true, true, true, true, true, true, true, true, true, true, true, true, true, true, true, true, true, true, false, false] (by kernel_rfl) rfl (by rfl) (by rfl) (by rfl) (by go_simp) ((DM.out _ 3 _ hsl5).mono ?_)
          rintro e w9 ⟨rfl, hb9⟩
          refine ⟨_, rfl, hHeld.trans (hb9.mono hHeld.size), fun hHeld => ?_⟩
          simp only [Act.put, List.setIfInBounds_toArray, List.set_cons_zero, List.set_cons_succ]
          refine held_take (v := .string P5) 19 45 [true, true, true, true, true, true, true, true, true, true, true, true, true, true, true, true, true, true, true, true, false] rfl (by rfl) (by rfl) (by kernel_rfl) (by kernel_rfl) (by kernel_rfl) (by rfl) (fun _ _ _ h => h) (fun w' h => by rw [HP5.out]; exact run_op_adds rfl rfl rfl hs5) hHeld ?_
          simp only [Act.put, List.setIfInBounds_toArray, List.set_cons_zero, List.set_cons_succ]
          refine held_take (v := ?_) 20 9 [true, true, true, true, true, true, true, true, true, true, true, true, true, true, true, true, true, true, true, true, true] rfl (by rfl) (by rfl) (by kernel_rfl) (by kernel_rfl) (by kernel_rfl) (by rfl) (fun _ _ _ h => h) ?_ hHeld ?_
          rotate_left
          · intro w hSw; go_simp <;> with_reducible rfl
          simp only [Act.put, List.setIfInBounds_toArray, List.set_cons_zero, List.set_cons_succ]
          refine held_done (by kernel_rfl) ?_
          go_wp2_with fail
          go_meet
          exact ⟨rfl, Lib.hid hHeld⟩
      · generalize w3.drew = wD at *
        have hal := (Below.refl wD.heap.size wD).alloc (Nat.le_refl _) (.cells #[.int .i64 a, .int .i64 b, .int .i64 n] 2)
        have hsl := sl_lit wD 2 [a, b, n] (by simp)
        refine op_value (v := .slice (some ⟨wD.heap.size, 0, none⟩) 3 3) 43 [true, true, false, false, true, true, false, false, false, true, false, true, true, true, true, true, true, true, false, false, false] rfl (by rfl) (by rfl) (by rfl) (by go_simp <;> rfl) (hHeld.trans (hal.mono hHeld.size)) fun hHeld => ?_
        simp only [Act.put, List.setIfInBounds_toArray, List.set_cons_zero, List.set_cons_succ]
        refine held_call 2 28 [true, true, true, false, true, true, false, false, false, true, false, true, true, true, true, true, true, true, false, false, false] (by kernel_rfl) rfl (by rfl) (by rfl) (by rfl) (by go_simp) ((CI.out _).mono ?_)
        rintro e w4 ⟨rfl, hb4⟩
        refine ⟨_, rfl, hHeld.trans (hb4.mono hHeld.size), fun hHeld => ?_⟩
        simp only [Act.put, List.setIfInBounds_toArray, List.set_cons_zero, List.set_cons_succ]
        have hsl4 := hsl.keep hb4
        refine held_take (v := .string P1) 3 29 [true, true, true, true, true, true, false, false, false, true, false, true, true, true, true, true, true, true, false, false, false] rfl (by rfl) (by rfl) (by kernel_rfl) (by kernel_rfl) (by kernel_rfl) (by rfl) (fun _ _ _ h => h) (fun w' h => by rw [HP1.out]; exact run_op_adds rfl rfl rfl hs1) hHeld ?_
        simp only [Act.put, List.setIfInBounds_toArray, List.set_cons_zero, List.set_cons_succ]
        refine held_call 6 32 [true, true, true, true, true, true, true, false, false, true, false, true, true, true, true, true, true, true, false, false, false] (by kernel_rfl) rfl (by rfl) (by rfl) (by rfl) (by go_simp) ((CT.out _).mono ?_)
        rintro e w5 ⟨rfl, hb5⟩
        refine ⟨_, rfl, hHeld.trans (hb5.mono hHeld.size), fun hHeld => ?_⟩
        simp only [Act.put, List.setIfInBounds_toArray, List.set_cons_zero, List.set_cons_succ]
        have hsl5 := hsl4.keep hb5
        refine held_take (v := .string P2) 7 33 [true, true, true, true, true, true, true, true, false, true, false, true, true, true, true, true, true, true, false, false, false] rfl (by rfl) (by rfl) (by kernel_rfl) (by kernel_rfl) (by kernel_rfl) (by rfl) (fun _ _ _ h => h) (fun w' h => by rw [HP2.out]; exact run_op_adds rfl rfl rfl hs2) hHeld ?_
        simp only [Act.put, List.setIfInBounds_toArray, List.set_cons_zero, List.set_cons_succ]
        refine held_take (v := .string P3) 8 34 [true, true, true, true, true, true, true, true, true, true, false, true, true, true, true, true, true, true, false, false, false] rfl (by rfl) (by rfl) (by kernel_rfl) (by kernel_rfl) (by kernel_rfl) (by rfl) (fun _ _ _ h => h) (fun w' h => by rw [HP3.out]; exact run_op_adds rfl rfl rfl hs3) hHeld ?_
        simp only [Act.put, List.setIfInBounds_toArray, List.set_cons_zero, List.set_cons_succ]
        refine held_take (v := .string P4) 10 36 [true, true, true, true, true, true, true, true, true, true, true, true, true, true, true, true, true, true, false, false, false] rfl (by rfl) (by rfl) (by kernel_rfl) (by kernel_rfl) (by kernel_rfl) (by rfl) (fun _ _ _ h => h) (fun w' h => by rw [HP4.out]; exact run_op_adds rfl rfl rfl hs4) hHeld ?_
        simp only [Act.put, List.setIfInBounds_toArray, List.set_cons_zero, List.set_cons_succ]
        refine held_call 18 44 [true, true, true, true, true, true, true, true, true, true, true, true, true, true, true, true, true, true, true, false, false] (by kernel_rfl) rfl (by rfl) (by rfl) (by rfl) (by go_simp) ((DM.out _ 3 _ hsl5).mono ?_)
        rintro e w9 ⟨rfl, hb9⟩
        refine ⟨_, rfl, hHeld.trans (hb9.mono hHeld.size), fun hHeld => ?_⟩
        simp only [Act.put, List.setIfInBounds_toArray, List.set_cons_zero, List.set_cons_succ]
        refine held_take (v := .string P5) 19 45 [true, true, true, true, true, true, true, true, true, true, true, true, true, true, true, true, true, true, true, true, false] rfl (by rfl) (by rfl) (by kernel_rfl) (by kernel_rfl) (by kernel_rfl) (by rfl) (fun _ _ _ h => h) (fun w' h => by rw [HP5.out]; exact run_op_adds rfl rfl rfl hs5) hHeld ?_
        simp only [Act.put, List.setIfInBounds_toArray, List.set_cons_zero, List.set_cons_succ]
        refine held_take (v := ?_) 20 9 [true, true, true, true, true, true, true, true, true, true, true, true, true, true, true, true, true, true, true, true, true] rfl (by rfl) (by rfl) (by kernel_rfl) (by kernel_rfl) (by kernel_rfl) (by rfl) (fun _ _ _ h => h) ?_ hHeld ?_
        rotate_left
        · intro w hSw; go_simp <;> with_reducible rfl
        simp only [Act.put, List.setIfInBounds_toArray, List.set_cons_zero, List.set_cons_succ]
        refine held_done (by kernel_rfl) ?_
        go_wp2_with fail
        go_meet
        exact ⟨rfl, Lib.hid hHeld⟩
    case rest =>
      obtain ⟨rfl, hbc⟩ := hcut
      have HB4 := Lib.hid (HB3.out.trans (hbc.out.mono (HG0.out ▸ HB3.out.size)))
      have A4 := Lib.hid (A3.out.keep hbc.out A3.out.lt)
      have B4 := Lib.hid (B3.out.keep hbc.out B3.out.lt)
      have D4 := Lib.hid (D3.out.keep hbc.out D3.out.lt)
      clear hbc HB3 A3 B3 D3 CI CT DM hs1 hs2 hs3 hs4 hs5 HP1 HP2 HP3 HP4 HP5
      generalize wc = w4 at *
      obtain ⟨ZN, hZN⟩ : ∃ ZN, ZN = (!decide (p2 = 0 ∧ q2 = 0)) := ⟨_, rfl⟩
      rw [← hZN] at HNE
      have HZN := Lib.hid hZN
      clear hZN
      have ri : w4.rangeAt g0 7 (ints [p2, q2]) := A4.out.range 7 (ints [p2, q2]) rfl
      go_upto_if 49 with (first | ((with_reducible refine ld_row ri id_row ?_ ?_ ?_); (· rfl); (· rfl); (simp only [Act.put, List.setIfInBounds_toArray, List.set_cons_zero, List.set_cons_succ])) | ((with_reducible refine cmp_row id_guard HNE.out ?_ ?_ ?_ ?_); (· rfl); (· rfl); (· rfl); (simp only [Act.put, List.setIfInBounds_toArray, List.set_cons_zero, List.set_cons_succ])))
      go_cut [9] (fun s9 wx => s9 = .string CB ∧ Hid (Below w4.heap.size w4 wx))
      case first =>
        cases ZN
        · have HE : Hid (CB = P5) := Lib.hid (by rw [HCB.out, if_pos (by have := HZN.out; simpa using this)])
          go_wp2_with fail
          go_meet
          exact ⟨by rw [HE.out], Lib.hid (Below.refl _ _)⟩
        · have HE : Hid (CB = P5 ++ ⟨#[32]⟩ ++ IB) := Lib.hid (by rw [HCB.out, if_neg (fun hz => by have h := HZN.out; rw [decide_eq_true hz] at h; cases h)])
          go_wp2_with (first | ((with_reducible refine ld_row ri id_row ?_ ?_ ?_); (· rfl); (· rfl); (simp only [Act.put, List.setIfInBounds_toArray, List.set_cons_zero, List.set_cons_succ])))
          refine (CJ.out _).mono ?_
          rintro e w5 ⟨rfl, hb⟩
          have HB5 := Lib.hid hb
          clear hb
          go_wp2_with fail
          go_meet
          exact ⟨by rw [HE.out], HB5⟩
      case rest =>
        obtain ⟨rfl, hbc⟩ := hcut
        have HB5 := Lib.hid (HB4.out.trans (hbc.out.mono (HG0.out ▸ HB4.out.size)))
        have A5 := Lib.hid (A4.out.keep hbc.out A4.out.lt)
        have B5 := Lib.hid (B4.out.keep hbc.out B4.out.lt)
        have D5 := Lib.hid (D4.out.keep hbc.out D4.out.lt)
        clear hbc HB4 A4 B4 D4 CJ HCB HNE ri HZN
        generalize wc = w5 at *
        have ck := D5.out.cell 0
        obtain ⟨cz, hcz⟩ : ∃ cz, cz = (c != 0) := ⟨_, rfl⟩
        have HCZ := Lib.hid hcz
        rw [eq_comm] at hcz
        go_upto_if 58 with fail
        clear hcz
        go_cut [10] (fun s10 wx => s10 = .string TB ∧ Hid (Below w5.heap.size w5 wx))
        case first =>
          cases cz
          · have HE : Hid (TB = ⟨#[111, 107]⟩) := Lib.hid (by rw [HTB.out, if_pos (by have := HCZ.out; simpa using this)])
            go_wp2_with fail
            go_meet
            exact ⟨by rw [HE.out], Lib.hid (Below.refl _ _)⟩
          · have HE : Hid (TB = ⟨#[101, 114, 114, 111, 114, 32]⟩ ++ itB c) := Lib.hid (by rw [HTB.out, if_neg (by have := HCZ.out; simpa using this)])
            go_wp2_with fail
            refine (CD.out _).mono ?_
            rintro e w6 ⟨rfl, hb⟩
            have HB6 := Lib.hid hb
            clear hb
            go_wp2_with fail
            go_meet
            exact ⟨by rw [HE.out], HB6⟩
        case rest =>
          obtain ⟨rfl, hbc⟩ := hcut
          have HB6 := Lib.hid (HB5.out.trans (hbc.out.mono (HG0.out ▸ HB5.out.size)))
          have A6 := Lib.hid (A5.out.keep hbc.out A5.out.lt)
          have B6 := Lib.hid (B5.out.keep hbc.out B5.out.lt)
          have D6 := Lib.hid (D5.out.keep hbc.out D5.out.lt)
          clear hbc HB5 A5 B5 D5 CD HTB ck HCZ
          generalize wc = w6 at *
          have CC := Lib.hid (fun w' (hb : Below w6.heap.size w6 w') => CC0.out w' (HB6.out.trans (hb.mono (HG0.out ▸ HB6.out.size))))
          have CO := Lib.hid (fun w' (hb : Below w6.heap.size w6 w') => CO0.out w' (HB6.out.trans (hb.mono (HG0.out ▸ HB6.out.size))))
          have CR := Lib.hid (fun w' (hb : Below w6.heap.size w6 w') => CR0.out w' (HB6.out.trans (hb.mono (HG0.out ▸ HB6.out.size))))
          have CA := Lib.hid (fun w' (hb : Below w6.heap.size w6 w') => CA0.out w' (HB6.out.trans (hb.mono (HG0.out ▸ HB6.out.size))))
          clear CC0 CO0 CR0 CA0
          go_upto_region 13 with fail
          refine held_begin (fun w' => Below w6.heap.size w6 w') 25 [false, false, false, false, false, false, false, false, false, false, false, false, false, false, false, false, false, false, false, false, false, false, false, false, false] (by kernel_rfl) rfl (by rfl) ?_
          have hHeld : Below w6.heap.size w6 w6.drew := (Below.refl _ _).drew
          refine held_take (v := .agg (#[.int .i64 p, .int .i64 q, .int .i64 t, .int .i64 k, .int .i64 a, .int .i64 b, .int .i64 n, .int .i64 p2, .int .i64 q2] : Array Value).toList.toArray) 0 63 [true, false, false, false, false, false, false, false, false, false, false, false, false, false, false, false, false, false, false, false, false, false, false, false, false] rfl (by rfl) (by rfl) (by kernel_rfl) (by kernel_rfl) (by kernel_rfl) (by rfl) (fun _ _ _ h => h) (fun w' h => run_op_load rfl rfl ((A6.out.keep h A6.out.lt).range 0 (#[.int .i64 p, .int .i64 q, .int .i64 t, .int .i64 k, .int .i64 a, .int .i64 b, .int .i64 n, .int .i64 p2, .int .i64 q2] : Array Value).toList rfl) Tryd.underlying25 rfl ch_sz) hHeld ?_
          simp only [Act.put, List.setIfInBounds_toArray, List.set_cons_zero, List.set_cons_succ]
          refine held_take (v := ?_) 2 65 [true, false, true, false, false, false, false, false, false, false, false, false, false, false, false, false, false, false, false, false, false, false, false, false, false] rfl (by rfl) (by rfl) (by kernel_rfl) (by kernel_rfl) (by kernel_rfl) (by rfl) (fun _ _ _ h => h) ?_ hHeld ?_
          rotate_left
          · intro w hSw; go_simp <;> with_reducible rfl
          simp only [Act.put, List.setIfInBounds_toArray, List.set_cons_zero, List.set_cons_succ]
          refine held_call 1 64 [true, true, true, false, false, false, false, false, false, false, false, false, false, false, false, false, false, false, false, false, false, false, false, false, false] (by kernel_rfl) rfl (by rfl) (by rfl) (by rfl) (by go_simp) ((CC.out _ hHeld).mono ?_)
          rintro e w7 ⟨rfl, hb7⟩
          refine ⟨_, rfl, hHeld.trans (hb7.mono hHeld.size), fun hHeld => ?_⟩
          simp only [Act.put, List.setIfInBounds_toArray, List.set_cons_zero, List.set_cons_succ]
          refine held_take (v := .bool true) 3 66 [true, true, true, true, false, false, false, false, false, false, false, false, false, false, false, false, false, false, false, false, false, false, false, false, false] rfl (by rfl) (by rfl) (by kernel_rfl) (by kernel_rfl) (by kernel_rfl) (by rfl) (fun _ _ _ h => h) (fun w h => by go_simp) hHeld ?_
          simp only [Act.put, List.setIfInBounds_toArray, List.set_cons_zero, List.set_cons_succ]
          refine held_take (v := ?_) 4 67 [true, true, true, true, true, false, false, false, false, false, false, false, false, false, false, false, false, false, false, false, false, false, false, false, false] rfl (by rfl) (by rfl) (by kernel_rfl) (by kernel_rfl) (by kernel_rfl) (by rfl) (fun _ _ _ h => h) ?_ hHeld ?_
          rotate_left
          · intro w hSw; go_simp <;> with_reducible rfl
          simp only [Act.put, List.setIfInBounds_toArray, List.set_cons_zero, List.set_cons_succ]
          refine held_take (v := .agg (#[.int .i64 p0, .int .i64 q0, .int .i64 bu, .int .i64 it, .int .i64 qt, .int .i64 co, .int .i64 st] : Array Value).toList.toArray) 5 68 [true, true, true, true, true, true, false, false, false, false, false, false, false, false, false, false, false, false, false, false, false, false, false, false, false] rfl (by rfl) (by rfl) (by kernel_rfl) (by kernel_rfl) (by kernel_rfl) (by rfl) (fun _ _ _ h => h) (fun w' h => run_op_load rfl rfl ((B6.out.keep h B6.out.lt).range 0 (#[.int .i64 p0, .int .i64 q0, .int .i64 bu, .int .i64 it, .int .i64 qt, .int .i64 co, .int .i64 st] : Array Value).toList rfl) Tryd.underlying27 rfl ow_sz) hHeld ?_
          simp only [Act.put, List.setIfInBounds_toArray, List.set_cons_zero, List.set_cons_succ]
          refine held_take (v := .agg (#[.int .i64 p0, .int .i64 q0, .int .i64 bu, .int .i64 it, .int .i64 qt, .int .i64 co, .int .i64 st] : Array Value).toList.toArray) 7 70 [true, true, true, true, true, true, false, true, false, false, false, false, false, false, false, false, false, false, false, false, false, false, false, false, false] rfl (by rfl) (by rfl) (by kernel_rfl) (by kernel_rfl) (by kernel_rfl) (by rfl) (fun _ _ _ h => h) (fun w' h => run_op_load rfl rfl ((B6.out.keep h B6.out.lt).range 0 (#[.int .i64 p0, .int .i64 q0, .int .i64 bu, .int .i64 it, .int .i64 qt, .int .i64 co, .int .i64 st] : Array Value).toList rfl) Tryd.underlying27 rfl ow_sz) hHeld ?_
          simp only [Act.put, List.setIfInBounds_toArray, List.set_cons_zero, List.set_cons_succ]
          refine held_call 6 69 [true, true, true, true, true, true, true, true, false, false, false, false, false, false, false, false, false, false, false, false, false, false, false, false, false] (by kernel_rfl) rfl (by rfl) (by rfl) (by rfl) (by go_simp) ((CO.out _ hHeld).mono ?_)
          rintro e w8 ⟨rfl, hb8⟩
          refine ⟨_, rfl, hHeld.trans (hb8.mono hHeld.size), fun hHeld => ?_⟩
          simp only [Act.put, List.setIfInBounds_toArray, List.set_cons_zero, List.set_cons_succ]
          refine held_call 8 71 [true, true, true, true, true, true, true, true, true, false, false, false, false, false, false, false, false, false, false, false, false, false, false, false, false] (by kernel_rfl) rfl (by rfl) (by rfl) (by rfl) (by go_simp) ((CR.out _ hHeld).mono ?_)
          rintro e w9 ⟨rfl, hb9⟩
          refine ⟨_, rfl, hHeld.trans (hb9.mono hHeld.size), fun hHeld => ?_⟩
          simp only [Act.put, List.setIfInBounds_toArray, List.set_cons_zero, List.set_cons_succ]
          refine held_take (v := .bool true) 9 72 [true, true, true, true, true, true, true, true, true, true, false, false, false, false, false, false, false, false, false, false, false, false, false, false, false] rfl (by rfl) (by rfl) (by kernel_rfl) (by kernel_rfl) (by kernel_rfl) (by rfl) (fun _ _ _ h => h) (fun w h => by go_simp) hHeld ?_
          simp only [Act.put, List.setIfInBounds_toArray, List.set_cons_zero, List.set_cons_succ]
          refine held_take (v := .bool true) 10 73 [true, true, true, true, true, true, true, true, true, true, true, false, false, false, false, false, false, false, false, false, false, false, false, false, false] rfl (by rfl) (by rfl) (by kernel_rfl) (by kernel_rfl) (by kernel_rfl) (by rfl) (fun _ _ _ h => h) (fun w h => by go_simp) hHeld ?_
          simp only [Act.put, List.setIfInBounds_toArray, List.set_cons_zero, List.set_cons_succ]
          refine held_take (v := ?_) 11 74 [true, true, true, true, true, true, true, true, true, true, true, true, false, false, false, false, false, false, false, false, false, false, false, false, false] rfl (by rfl) (by rfl) (by kernel_rfl) (by kernel_rfl) (by kernel_rfl) (by rfl) (fun _ _ _ h => h) ?_ hHeld ?_
          rotate_left
          · intro w hSw; go_simp <;> with_reducible rfl
          simp only [Act.put, List.setIfInBounds_toArray, List.set_cons_zero, List.set_cons_succ]
          refine held_take (v := .agg (#[.int .i64 c, .int .i64 m1, .int .i64 m2] : Array Value).toList.toArray) 12 75 [true, true, true, true, true, true, true, true, true, true, true, true, true, false, false, false, false, false, false, false, false, false, false, false, false] rfl (by rfl) (by rfl) (by kernel_rfl) (by kernel_rfl) (by kernel_rfl) (by rfl) (fun _ _ _ h => h) (fun w' h => run_op_load rfl rfl ((D6.out.keep h D6.out.lt).range 0 (#[.int .i64 c, .int .i64 m1, .int .i64 m2] : Array Value).toList rfl) Tryd.underlying30 rfl aw_sz) hHeld ?_
          simp only [Act.put, List.setIfInBounds_toArray, List.set_cons_zero, List.set_cons_succ]
          refine held_take (v := ?_) 14 77 [true, true, true, true, true, true, true, true, true, true, true, true, true, false, true, false, false, false, false, false, false, false, false, false, false] rfl (by rfl) (by rfl) (by kernel_rfl) (by kernel_rfl) (by kernel_rfl) (by rfl) (fun _ _ _ h => h) ?_ hHeld ?_
          rotate_left
          · intro w hSw; go_simp <;> with_reducible rfl
          simp only [Act.put, List.setIfInBounds_toArray, List.set_cons_zero, List.set_cons_succ]
          refine held_take (v := ?_) 15 78 [true, true, true, true, true, true, true, true, true, true, true, true, true, false, true, true, false, false, false, false, false, false, false, false, false] rfl (by rfl) (by rfl) (by kernel_rfl) (by kernel_rfl) (by kernel_rfl) (by rfl) (fun _ _ _ h => h) ?_ hHeld ?_
          rotate_left
          · intro w hSw; go_simp <;> with_reducible rfl
          simp only [Act.put, List.setIfInBounds_toArray, List.set_cons_zero, List.set_cons_succ]
          refine held_take (v := .int .i64 m1) 16 79 [true, true, true, true, true, true, true, true, true, true, true, true, true, false, true, true, true, false, false, false, false, false, false, false, false] rfl (by rfl) (by rfl) (by kernel_rfl) (by kernel_rfl) (by kernel_rfl) (by rfl) (fun _ _ _ h => h) (fun w' h => run_op_one rfl rfl Tryd.underlying3 rfl ((D6.out.keep h D6.out.lt).cell 1)) hHeld ?_
          simp only [Act.put, List.setIfInBounds_toArray, List.set_cons_zero, List.set_cons_succ]
          refine held_take (v := ?_) 17 80 [true, true, true, true, true, true, true, true, true, true, true, true, true, false, true, true, true, true, false, false, false, false, false, false, false] rfl (by rfl) (by rfl) (by kernel_rfl) (by kernel_rfl) (by kernel_rfl) (by rfl) (fun _ _ _ h => h) ?_ hHeld ?_
          rotate_left
          · intro w hSw; go_simp <;> with_reducible rfl
          simp only [Act.put, List.setIfInBounds_toArray, List.set_cons_zero, List.set_cons_succ]
          refine held_take (v := .int .i64 m2) 18 81 [true, true, true, true, true, true, true, true, true, true, true, true, true, false, true, true, true, true, true, false, false, false, false, false, false] rfl (by rfl) (by rfl) (by kernel_rfl) (by kernel_rfl) (by kernel_rfl) (by rfl) (fun _ _ _ h => h) (fun w' h => run_op_one rfl rfl Tryd.underlying3 rfl ((D6.out.keep h D6.out.lt).cell 2)) hHeld ?_
          simp only [Act.put, List.setIfInBounds_toArray, List.set_cons_zero, List.set_cons_succ]
          refine held_two 13 19 (by kernel_rfl) ?_ ?_
          · refine op_call 76 [true, true, true, true, true, true, true, true, true, true, true, true, true, true, true, true, true, true, true, false, false, false, false, false, false] rfl (by rfl) (by rfl) (by rfl) (by go_simp) ((CA.out _ hHeld).mono ?_)
            rintro e wa ⟨rfl, hba⟩
            refine ⟨_, rfl, hHeld.trans (hba.mono hHeld.size), fun hHeld => ?_⟩
            simp only [Act.put, List.setIfInBounds_toArray, List.set_cons_zero, List.set_cons_succ]
            have hal := (Below.refl wa.heap.size wa).alloc (Nat.le_refl _) (.cells #[.int .i64 m1, .int .i64 m2] 2)
            have hsl := sl_lit wa 2 [m1, m2] (by simp)
            refine held_one 19 (by kernel_rfl) ?_
            refine op_value (v := .slice (some ⟨wa.heap.size, 0, none⟩) 2 2) 82 [true, true, true, true, true, true, true, true, true, true, true, true, true, true, true, true, true, true, true, true, false, false, false, false, false] rfl (by rfl) (by rfl) (by rfl) (by go_simp <;> rfl) (hHeld.trans (hal.mono hHeld.size)) fun hHeld => ?_
            simp only [Act.put, List.setIfInBounds_toArray, List.set_cons_zero, List.set_cons_succ]
            refine held_call 20 83 [true, true, true, true, true, true, true, true, true, true, true, true, true, true, true, true, true, true, true, true, true, false, false, false, false] (by kernel_rfl) rfl (by rfl) (by rfl) (by rfl) (by go_simp) ((DN.out _ 2 _ hsl).mono ?_)
            rintro e wb ⟨rfl, hbb⟩
            refine ⟨_, rfl, hHeld.trans (hbb.mono hHeld.size), fun hHeld => ?_⟩
            simp only [Act.put, List.setIfInBounds_toArray, List.set_cons_zero, List.set_cons_succ]
            refine held_take (v := .string (TB ++ N2)) 21 84 [true, true, true, true, true, true, true, true, true, true, true, true, true, true, true, true, true, true, true, true, true, true, false, false, false] rfl (by rfl) (by rfl) (by kernel_rfl) (by kernel_rfl) (by kernel_rfl) (by rfl) (fun _ _ _ h => h) (fun w' h => run_op_adds rfl rfl rfl hs6) hHeld ?_
            simp only [Act.put, List.setIfInBounds_toArray, List.set_cons_zero, List.set_cons_succ]
            refine held_take (v := .bool true) 22 85 [true, true, true, true, true, true, true, true, true, true, true, true, true, true, true, true, true, true, true, true, true, true, true, false, false] rfl (by rfl) (by rfl) (by kernel_rfl) (by kernel_rfl) (by kernel_rfl) (by rfl) (fun _ _ _ h => h) (fun w h => by go_simp) hHeld ?_
            simp only [Act.put, List.setIfInBounds_toArray, List.set_cons_zero, List.set_cons_succ]
            refine held_take (v := .bool true) 23 86 [true, true, true, true, true, true, true, true, true, true, true, true, true, true, true, true, true, true, true, true, true, true, true, true, false] rfl (by rfl) (by rfl) (by kernel_rfl) (by kernel_rfl) (by kernel_rfl) (by rfl) (fun _ _ _ h => h) (fun w h => by go_simp) hHeld ?_
            simp only [Act.put, List.setIfInBounds_toArray, List.set_cons_zero, List.set_cons_succ]
            refine held_take (v := ?_) 24 6 [true, true, true, true, true, true, true, true, true, true, true, true, true, true, true, true, true, true, true, true, true, true, true, true, true] rfl (by rfl) (by rfl) (by kernel_rfl) (by kernel_rfl) (by kernel_rfl) (by rfl) (fun _ _ _ h => h) ?_ hHeld ?_
            rotate_left
            · intro w hSw; go_simp <;> with_reducible rfl
            simp only [Act.put, List.setIfInBounds_toArray, List.set_cons_zero, List.set_cons_succ]
            refine held_done (by kernel_rfl) ?_
            have HB9 := HB6.out.trans (hHeld.mono (HG0.out ▸ HB6.out.size))
            go_wp2_with fail
            go_ret
            have hge := HG0.out
            subst hge
            exact ⟨rfl, HB9⟩
          · have hal := (Below.refl w9.heap.size w9).alloc (Nat.le_refl _) (.cells #[.int .i64 m1, .int .i64 m2] 2)
            have hsl := sl_lit w9 2 [m1, m2] (by simp)
            refine op_value (v := .slice (some ⟨w9.heap.size, 0, none⟩) 2 2) 82 [true, true, true, true, true, true, true, true, true, true, true, true, true, false, true, true, true, true, true, true, false, false, false, false, false] rfl (by rfl) (by rfl) (by rfl) (by go_simp <;> rfl) (hHeld.trans (hal.mono hHeld.size)) fun hHeld => ?_
            simp only [Act.put, List.setIfInBounds_toArray, List.set_cons_zero, List.set_cons_succ]
            refine held_call 13 76 [true, true, true, true, true, true, true, true, true, true, true, true, true, true, true, true, true, true, true, true, false, false, false, false, false] (by kernel_rfl) rfl (by rfl) (by rfl) (by rfl) (by go_simp) ((CA.out _ hHeld).mono ?_)
            rintro e wa ⟨rfl, hba⟩
            refine ⟨_, rfl, hHeld.trans (hba.mono hHeld.size), fun hHeld => ?_⟩
            simp only [Act.put, List.setIfInBounds_toArray, List.set_cons_zero, List.set_cons_succ]
            have hsl2 := hsl.keep hba
            refine held_call 20 83 [true, true, true, true, true, true, true, true, true, true, true, true, true, true, true, true, true, true, true, true, true, false, false, false, false] (by kernel_rfl) rfl (by rfl) (by rfl) (by rfl) (by go_simp) ((DN.out _ 2 _ hsl2).mono ?_)
            rintro e wb ⟨rfl, hbb⟩
            refine ⟨_, rfl, hHeld.trans (hbb.mono hHeld.size), fun hHeld => ?_⟩
            simp only [Act.put, List.setIfInBounds_toArray, List.set_cons_zero, List.set_cons_succ]
            refine held_take (v := .string (TB ++ N2)) 21 84 [true, true, true, true, true, true, true, true, true, true, true, true, true, true, true, true, true, true, true, true, true, true, false, false, false] rfl (by rfl) (by rfl) (by kernel_rfl) (by kernel_rfl) (by kernel_rfl) (by rfl) (fun _ _ _ h => h) (fun w' h => run_op_adds rfl rfl rfl hs6) hHeld ?_
            simp only [Act.put, List.setIfInBounds_toArray, List.set_cons_zero, List.set_cons_succ]
            refine held_take (v := .bool true) 22 85 [true, true, true, true, true, true, true, true, true, true, true, true, true, true, true, true, true, true, true, true, true, true, true, false, false] rfl (by rfl) (by rfl) (by kernel_rfl) (by kernel_rfl) (by kernel_rfl) (by rfl) (fun _ _ _ h => h) (fun w h => by go_simp) hHeld ?_
            simp only [Act.put, List.setIfInBounds_toArray, List.set_cons_zero, List.set_cons_succ]
            refine held_take (v := .bool true) 23 86 [true, true, true, true, true, true, true, true, true, true, true, true, true, true, true, true, true, true, true, true, true, true, true, true, false] rfl (by rfl) (by rfl) (by kernel_rfl) (by kernel_rfl) (by kernel_rfl) (by rfl) (fun _ _ _ h => h) (fun w h => by go_simp) hHeld ?_
            simp only [Act.put, List.setIfInBounds_toArray, List.set_cons_zero, List.set_cons_succ]
            refine held_take (v := ?_) 24 6 [true, true, true, true, true, true, true, true, true, true, true, true, true, true, true, true, true, true, true, true, true, true, true, true, true] rfl (by rfl) (by rfl) (by kernel_rfl) (by kernel_rfl) (by kernel_rfl) (by rfl) (fun _ _ _ h => h) ?_ hHeld ?_
            rotate_left
            · intro w hSw; go_simp <;> with_reducible rfl
            simp only [Act.put, List.setIfInBounds_toArray, List.set_cons_zero, List.set_cons_succ]
            refine held_done (by kernel_rfl) ?_
            have HB9 := HB6.out.trans (hHeld.mono (HG0.out ▸ HB6.out.size))
            go_wp2_with fail
            go_ret
            have hge := HG0.out
            subst hge
            exact ⟨rfl, HB9⟩
theorem changes39_law (v0 v1 v2 : Value) (w : World) (hL : laidMet Tryd.prog Rows.outlineChangesRow.laid w) (h0 : Arg Tryd.prog w 25 v0) (h1 : Arg Tryd.prog w 27 v1) (h2 : Arg Tryd.prog w 30 v2) : Calls Tryd.prog 3 #[v0, v1, v2] w fun e w' => e = .returned (.bool true) ∧ Below w.heap.size w w' := by
  have hT : PTab w := ptab_of hL (l := Rows.outlineChangesRow.laid) (List.Mem.tail _ (List.Mem.tail _ (List.Mem.head _)))
  have hB : STab 1 bookW w := stab_of (t := 32) (n := 10) hL (l := Rows.outlineChangesRow.laid) (name := "countermand/booking.words") (List.Mem.tail _ (List.Mem.tail _ (List.Mem.tail _ (List.Mem.head _)))) (by kernel_rfl) (by kernel_rfl) Tryd.underlying32 rfl (by decide)
  have hS : STab 0 stW w := stab_of (t := 62) (n := 6) hL (l := Rows.outlineChangesRow.laid) (name := "countermand/outline.states") (List.Mem.tail _ (List.Mem.tail _ (List.Mem.tail _ (List.Mem.tail _ (List.Mem.head _))))) (by kernel_rfl) (by kernel_rfl) Tryd.underlying62 rfl (by decide)
  obtain ⟨cs, rfl, k2⟩ := h0.flat_struct Tryd.underlying25 (show flat Tryd.prog 6 25 = some (List.replicate 9 (some .i64)) by kernel_rfl)
  obtain ⟨l, l3, l4, l5⟩ := ints_of_ok 9 _ k2
  obtain ⟨ds, rfl, k3⟩ := h1.flat_struct Tryd.underlying27 (show flat Tryd.prog 6 27 = some (List.replicate 7 (some .i64)) by kernel_rfl)
  obtain ⟨m, m3, m4, m5⟩ := ints_of_ok 7 _ k3
  obtain ⟨es, rfl, k4⟩ := h2.flat_struct Tryd.underlying30 (show flat Tryd.prog 6 30 = some (List.replicate 3 (some .i64)) by kernel_rfl)
  obtain ⟨r, r3, r4, r5⟩ := ints_of_ok 3 _ k4
  rw [show cs = cs.toList.toArray by simp, show ds = ds.toList.toArray by simp, show es = es.toList.toArray by simp, l4, m4, r4]
  match l, l3, l5, m, m3, m5, r, r3, r5 with
  | [p, q, t, k, a, b, n, p2, q2], _, l5, [p0, q0, bu, it, qt, co, st], _, m5, [c, m1, m2], _, r5 =>
    exact changes39 p q t k a b n p2 q2 p0 q0 bu it qt co st c m1 m2 w (fun z hz => fits_wf (l5 z hz)) (fun z hz => fits_wf (m5 z hz)) (fun z hz => fits_wf (r5 z hz)) hT hB hS
end Go.Proofs.YtaaefkadkciohaaDoor
