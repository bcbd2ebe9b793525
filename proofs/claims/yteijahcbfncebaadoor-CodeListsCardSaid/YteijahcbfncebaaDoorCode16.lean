/- The reference's Check of a step, walked. -/
import Derived.Test.YteijahcbfncebaaDoorCode15
import Derived.Test.YteijahcbfncebaaDoorEq
import Derived.Deep.LoopGhost
import Derived.Deep.DeepCutAuto
import Derived.RegionTactic
import Derived.BigRegion
import Derived.ChangeAlike
namespace Go.Proofs.YteijahcbfncebaaDoor
set_option linter.unusedVariables false
set_option linter.unusedSimpArgs false
open Go.ChangeShapes Go.WideShapes Go.ChangeAt Go.RowKit
set_option maxRecDepth 100000 in
set_option maxHeartbeats 16000000 in
theorem rchk31_any (k r i n i1 i2 t ck a b cn p q : Int) (w : World) (hf : Hid (∀ z ∈ ([k, r, i, n, i1, i2, t, ck, a, b, cn, p, q] : List Int), fits z = true)) :
    Calls Tryd.prog 8 #[.agg #[.int .i64 k, .int .i64 r, .int .i64 i, .int .i64 n, .int .i64 i1, .int .i64 i2, .int .i64 t, .int .i64 ck, .int .i64 a, .int .i64 b, .int .i64 cn, .int .i64 p, .int .i64 q]] w fun e w' => e = .returned (.int .i64 (chkS k r i n i1 i2 t ck a b cn p q)) ∧ Below w.heap.size w w' := by
  have HA := Lib.hid (Blk.new w #[.int .i64 k, .int .i64 r, .int .i64 i, .int .i64 n, .int .i64 i1, .int .i64 i2, .int .i64 t, .int .i64 ck, .int .i64 a, .int .i64 b, .int .i64 cn, .int .i64 p, .int .i64 q] 27)
  have HB := Lib.hid ((Below.refl w.heap.size w).alloc (Nat.le_refl _) (.cells #[.int .i64 k, .int .i64 r, .int .i64 i, .int .i64 n, .int .i64 i1, .int .i64 i2, .int .i64 t, .int .i64 ck, .int .i64 a, .int .i64 b, .int .i64 cn, .int .i64 p, .int .i64 q] 27))
  go_enter Tryd.func8, Tryd.ntmps8
  go_upto_region 1 with fail
  have hz : w.heap.size < (w.alloc (.cells #[.int .i64 k, .int .i64 r, .int .i64 i, .int .i64 n, .int .i64 i1, .int .i64 i2, .int .i64 t, .int .i64 ck, .int .i64 a, .int .i64 b, .int .i64 cn, .int .i64 p, .int .i64 q] 27)).heap.size := by simp
  generalize w.alloc (.cells #[.int .i64 k, .int .i64 r, .int .i64 i, .int .i64 n, .int .i64 i1, .int .i64 i2, .int .i64 t, .int .i64 ck, .int .i64 a, .int .i64 b, .int .i64 cn, .int .i64 p, .int .i64 q] 27) = W at *
  have c0 : W.cell? ⟨w.heap.size, 0, none⟩ = some (.int .i64 k) := HA.out.cell 0
  have c1 : W.cell? ⟨w.heap.size, 1, none⟩ = some (.int .i64 r) := HA.out.cell 1
  have c2 : W.cell? ⟨w.heap.size, 2, none⟩ = some (.int .i64 i) := HA.out.cell 2
  have c3 : W.cell? ⟨w.heap.size, 3, none⟩ = some (.int .i64 n) := HA.out.cell 3
  have c4 : W.cell? ⟨w.heap.size, 4, none⟩ = some (.int .i64 i1) := HA.out.cell 4
  have c5 : W.cell? ⟨w.heap.size, 5, none⟩ = some (.int .i64 i2) := HA.out.cell 5
  have c6 : W.cell? ⟨w.heap.size, 6, none⟩ = some (.int .i64 t) := HA.out.cell 6
  have c7 : W.cell? ⟨w.heap.size, 7, none⟩ = some (.int .i64 ck) := HA.out.cell 7
  have c8 : W.cell? ⟨w.heap.size, 8, none⟩ = some (.int .i64 a) := HA.out.cell 8
  have c9 : W.cell? ⟨w.heap.size, 9, none⟩ = some (.int .i64 b) := HA.out.cell 9
  have c10 : W.cell? ⟨w.heap.size, 10, none⟩ = some (.int .i64 cn) := HA.out.cell 10
  have c11 : W.cell? ⟨w.heap.size, 11, none⟩ = some (.int .i64 p) := HA.out.cell 11
  have c12 : W.cell? ⟨w.heap.size, 12, none⟩ = some (.int .i64 q) := HA.out.cell 12
  by_cases h1 : k < 1
  · have E : Hid (chkS k r i n i1 i2 t ck a b cn p q = 12) := Lib.hid (by unfold chkS; rw [if_pos (Or.inl h1)])
    go_wp2_with fail
    go_ret
    exact ⟨by rw [E.out]; rfl, HB.out⟩
  by_cases h2 : k > 15
  · have E : Hid (chkS k r i n i1 i2 t ck a b cn p q = 12) := Lib.hid (by unfold chkS; rw [if_pos (Or.inr h2)])
    go_wp2_with fail
    go_ret
    exact ⟨by rw [E.out]; rfl, HB.out⟩
  have N1 : Hid (¬ (k < 1 ∨ 15 < k)) := Lib.hid (by omega)
  have HX : Hid (Blk (W.alloc (.cells #[.int .i64 r, .int .i64 i, .int .i64 ck, .int .i64 a, .int .i64 b, .int .i64 p] 55)) W.heap.size (ints [r, i, ck, a, b, p]) 55) := Lib.hid (Blk.new W #[.int .i64 r, .int .i64 i, .int .i64 ck, .int .i64 a, .int .i64 b, .int .i64 p] 55)
  have HA2 := Lib.hid (HA.out.alloc (.cells #[.int .i64 r, .int .i64 i, .int .i64 ck, .int .i64 a, .int .i64 b, .int .i64 p] 55))
  have HB2 := Lib.hid (HB.out.alloc HB.out.size (.cells #[.int .i64 r, .int .i64 i, .int .i64 ck, .int .i64 a, .int .i64 b, .int .i64 p] 55))
  have hz2 : Hid (w.heap.size < (W.alloc (.cells #[.int .i64 r, .int .i64 i, .int .i64 ck, .int .i64 a, .int .i64 b, .int .i64 p] 55)).heap.size) := Lib.hid HA2.out.lt
  go_upto_region 4 with fail
  generalize hg2 : W.heap.size = g2 at *
  generalize W.alloc (.cells #[.int .i64 r, .int .i64 i, .int .i64 ck, .int .i64 a, .int .i64 b, .int .i64 p] 55) = W2 at *
  clear hg2 c0 c1 c2 c3 c4 c5 c6 c7 c8 c9 c10 c11 c12 hz HA HB
  have HNO := Lib.hid (fun (h : allOct [r, i, ck, a, b, p] = false) => show chkS k r i n i1 i2 t ck a b cn p q = 4 by
    unfold chkS; rw [if_neg N1.out]
    by_cases h4 : inB n 0 2147483647 = false ∨ q < 0 ∨ 65535 < q
    · rw [if_pos h4]
    · rw [if_neg h4, if_pos h])
  have x0 : W2.cell? ⟨g2, 0, none⟩ = some (.int .i64 r) := HX.out.cell 0
  have x1 : W2.cell? ⟨g2, 1, none⟩ = some (.int .i64 i) := HX.out.cell 1
  have x2 : W2.cell? ⟨g2, 2, none⟩ = some (.int .i64 ck) := HX.out.cell 2
  have x3 : W2.cell? ⟨g2, 3, none⟩ = some (.int .i64 a) := HX.out.cell 3
  have x4 : W2.cell? ⟨g2, 4, none⟩ = some (.int .i64 b) := HX.out.cell 4
  have x5 : W2.cell? ⟨g2, 5, none⟩ = some (.int .i64 p) := HX.out.cell 5
  clear h1 h2
  go_wp2_with fail
  go_loopg [4] 6 (fun qq s4 wr => ∃ j : Nat, qq + j = 6 ∧ s4 = .int .i64 j ∧ allOct (([r, i, ck, a, b, p] : List Int).take j) = true ∧ W2 = wr)
  case atStart => exact ⟨0, rfl, rfl, rfl, rfl⟩
  case round =>
    obtain ⟨j, hqi, rfl, hh, rfl⟩ := hrel
    have HH := Lib.hid hh
    clear hh
    rcases (show j = 0 ∨ j = 1 ∨ j = 2 ∨ j = 3 ∨ j = 4 ∨ j = 5 ∨ j = 6 by omega) with hj | hj | hj | hj | hj | hj | hj
    · obtain rfl : j = 0 := by omega
      rcases hb : inB r 0 255 with _ | _
      · have E := Lib.hid (HNO.out (by unfold allOct; simp [hb]))
        by_cases hlo : r < 0
        · clear hb
          go_wp2_with fail
          go_ret
          exact ⟨by rw [E.out]; rfl, HB2.out⟩
        · have hhi : 255 < r := by
            have : ¬ (inB r 0 255 = true) := by rw [hb]; decide
            rw [inB_iff] at this
            omega
          clear hb
          go_wp2_with fail
          go_ret
          exact ⟨by rw [E.out]; rfl, HB2.out⟩
      · have HH2 : Hid (allOct (([r, i, ck, a, b, p] : List Int).take 1) = true) := Lib.hid (by have := HH.out; unfold allOct at *; simp at *; simp [*])
        obtain ⟨hlo0, hhi0⟩ := inB_iff.1 hb
        have hlo : ¬ r < 0 := by omega
        have hhi : ¬ 255 < r := by omega
        clear hb hlo0 hhi0
        go_wp2_with fail
        go_roundg (gk - 1)
        case measure => omega
        case rel => exact ⟨1, by omega, by go_num, HH2.out, rfl⟩
    · obtain rfl : j = 1 := by omega
      rcases hb : inB i 0 255 with _ | _
      · have E := Lib.hid (HNO.out (by unfold allOct; simp [hb]))
        by_cases hlo : i < 0
        · clear hb
          go_wp2_with fail
          go_ret
          exact ⟨by rw [E.out]; rfl, HB2.out⟩
        · have hhi : 255 < i := by
            have : ¬ (inB i 0 255 = true) := by rw [hb]; decide
            rw [inB_iff] at this
            omega
          clear hb
          go_wp2_with fail
          go_ret
          exact ⟨by rw [E.out]; rfl, HB2.out⟩
      · have HH2 : Hid (allOct (([r, i, ck, a, b, p] : List Int).take 2) = true) := Lib.hid (by have := HH.out; unfold allOct at *; simp at *; simp [*])
        obtain ⟨hlo0, hhi0⟩ := inB_iff.1 hb
        have hlo : ¬ i < 0 := by omega
        have hhi : ¬ 255 < i := by omega
        clear hb hlo0 hhi0
        go_wp2_with fail
        go_roundg (gk - 1)
        case measure => omega
        case rel => exact ⟨2, by omega, by go_num, HH2.out, rfl⟩
    · obtain rfl : j = 2 := by omega
      rcases hb : inB ck 0 255 with _ | _
      · have E := Lib.hid (HNO.out (by unfold allOct; simp [hb]))
        by_cases hlo : ck < 0
        · clear hb
          go_wp2_with fail
          go_ret
          exact ⟨by rw [E.out]; rfl, HB2.out⟩
        · have hhi : 255 < ck := by
            have : ¬ (inB ck 0 255 = true) := by rw [hb]; decide
            rw [inB_iff] at this
            omega
          clear hb
          go_wp2_with fail
          go_ret
          exact ⟨by rw [E.out]; rfl, HB2.out⟩
      · have HH2 : Hid (allOct (([r, i, ck, a, b, p] : List Int).take 3) = true) := Lib.hid (by have := HH.out; unfold allOct at *; simp at *; simp [*])
        obtain ⟨hlo0, hhi0⟩ := inB_iff.1 hb
        have hlo : ¬ ck < 0 := by omega
        have hhi : ¬ 255 < ck := by omega
        clear hb hlo0 hhi0
        go_wp2_with fail
        go_roundg (gk - 1)
        case measure => omega
        case rel => exact ⟨3, by omega, by go_num, HH2.out, rfl⟩
    · obtain rfl : j = 3 := by omega
      rcases hb : inB a 0 255 with _ | _
      · have E := Lib.hid (HNO.out (by unfold allOct; simp [hb]))
        by_cases hlo : a < 0
        · clear hb
          go_wp2_with fail
          go_ret
          exact ⟨by rw [E.out]; rfl, HB2.out⟩
        · have hhi : 255 < a := by
            have : ¬ (inB a 0 255 = true) := by rw [hb]; decide
            rw [inB_iff] at this
            omega
          clear hb
          go_wp2_with fail
          go_ret
          exact ⟨by rw [E.out]; rfl, HB2.out⟩
      · have HH2 : Hid (allOct (([r, i, ck, a, b, p] : List Int).take 4) = true) := Lib.hid (by have := HH.out; unfold allOct at *; simp at *; simp [*])
        obtain ⟨hlo0, hhi0⟩ := inB_iff.1 hb
        have hlo : ¬ a < 0 := by omega
        have hhi : ¬ 255 < a := by omega
        clear hb hlo0 hhi0
        go_wp2_with fail
        go_roundg (gk - 1)
        case measure => omega
        case rel => exact ⟨4, by omega, by go_num, HH2.out, rfl⟩
    · obtain rfl : j = 4 := by omega
      rcases hb : inB b 0 255 with _ | _
      · have E := Lib.hid (HNO.out (by unfold allOct; simp [hb]))
        by_cases hlo : b < 0
        · clear hb
          go_wp2_with fail
          go_ret
          exact ⟨by rw [E.out]; rfl, HB2.out⟩
        · have hhi : 255 < b := by
            have : ¬ (inB b 0 255 = true) := by rw [hb]; decide
            rw [inB_iff] at this
            omega
          clear hb
          go_wp2_with fail
          go_ret
          exact ⟨by rw [E.out]; rfl, HB2.out⟩
      · have HH2 : Hid (allOct (([r, i, ck, a, b, p] : List Int).take 5) = true) := Lib.hid (by have := HH.out; unfold allOct at *; simp at *; simp [*])
        obtain ⟨hlo0, hhi0⟩ := inB_iff.1 hb
        have hlo : ¬ b < 0 := by omega
        have hhi : ¬ 255 < b := by omega
        clear hb hlo0 hhi0
        go_wp2_with fail
        go_roundg (gk - 1)
        case measure => omega
        case rel => exact ⟨5, by omega, by go_num, HH2.out, rfl⟩
    · obtain rfl : j = 5 := by omega
      rcases hb : inB p 0 255 with _ | _
      · have E := Lib.hid (HNO.out (by unfold allOct; simp [hb]))
        by_cases hlo : p < 0
        · clear hb
          go_wp2_with fail
          go_ret
          exact ⟨by rw [E.out]; rfl, HB2.out⟩
        · have hhi : 255 < p := by
            have : ¬ (inB p 0 255 = true) := by rw [hb]; decide
            rw [inB_iff] at this
            omega
          clear hb
          go_wp2_with fail
          go_ret
          exact ⟨by rw [E.out]; rfl, HB2.out⟩
      · have HH2 : Hid (allOct (([r, i, ck, a, b, p] : List Int).take 6) = true) := Lib.hid (by have := HH.out; unfold allOct at *; simp at *; simp [*])
        obtain ⟨hlo0, hhi0⟩ := inB_iff.1 hb
        have hlo : ¬ p < 0 := by omega
        have hhi : ¬ 255 < p := by omega
        clear hb hlo0 hhi0
        go_wp2_with fail
        go_roundg (gk - 1)
        case measure => omega
        case rel => exact ⟨6, by omega, by go_num, HH2.out, rfl⟩
    · obtain rfl : j = 6 := by omega
      have N3 : Hid (allOct [r, i, ck, a, b, p] = true) := HH
      clear HH HNO x0 x1 x2 x3 x4 x5 hj hqi
      go_upto_region 9 with fail
      have cq : W2.cell? ⟨w.heap.size, 12, none⟩ = some (.int .i64 q) := HA2.out.cell 12
      have cn3 : W2.cell? ⟨w.heap.size, 3, none⟩ = some (.int .i64 n) := HA2.out.cell 3
      have ck0 : W2.cell? ⟨w.heap.size, 0, none⟩ = some (.int .i64 k) := HA2.out.cell 0
      have HBAD := Lib.hid (fun (h : inB n 0 2147483647 = false ∨ q < 0 ∨ 65535 < q) => show chkS k r i n i1 i2 t ck a b cn p q = 4 by unfold chkS; rw [if_neg N1.out, if_pos h])
      have HNB := Lib.hid (fun (h : ¬ (0 ≤ n ∧ n ≤ 2147483647)) => show inB n 0 2147483647 = false by
        rcases hv : inB n 0 2147483647 with _ | _
        · rfl
        · exact absurd (inB_iff.1 hv) h)
      by_cases q1 : q < 0
      · have E := Lib.hid (HBAD.out (Or.inr (Or.inl q1)))
        go_wp2_with fail
        go_ret
        exact ⟨by rw [E.out]; rfl, HB2.out⟩
      by_cases q2 : 65535 < q
      · have E := Lib.hid (HBAD.out (Or.inr (Or.inr q2)))
        go_wp2_with fail
        go_ret
        exact ⟨by rw [E.out]; rfl, HB2.out⟩
      by_cases q3 : n < 0
      · have E := Lib.hid (HBAD.out (Or.inl (HNB.out (by omega))))
        go_wp2_with fail
        go_ret
        exact ⟨by rw [E.out]; rfl, HB2.out⟩
      by_cases q4 : 2147483647 < n
      · have E := Lib.hid (HBAD.out (Or.inl (HNB.out (by omega))))
        go_wp2_with fail
        go_ret
        exact ⟨by rw [E.out]; rfl, HB2.out⟩
      have N4 : Hid (0 ≤ q ∧ q ≤ 65535 ∧ inB n 0 2147483647 = true) := Lib.hid ⟨by omega, by omega, inB_iff.2 (by omega)⟩
      clear HBAD HNB
      go_upto_region 11 with fail
      clear q1 q2 q3 q4
      obtain ⟨kk, rfl⟩ := Int.eq_ofNat_of_zero_le (show 0 ≤ k by have := N1.out; omega)
      have hk0 : 1 ≤ kk := by have := N1.out; omega
      have hk : kk < 16 := by have := N1.out; omega
      have JJ := chk_just kk r i n i1 i2 t ck a b cn p q hk0 hk hf.out N3.out N4.out.2.2 N4.out.1 N4.out.2.1
      have JY := Lib.hid JJ.1
      have JN := Lib.hid JJ.2
      have HC := Lib.hid (fun w => has_any kk w hk0 hk)
      have F7 : Hid (tabF.getD kk 0 = 1 ∨ tabF.getD kk 0 = 2 ∨ tabF.getD kk 0 = 3 ∨ tabF.getD kk 0 = 4 ∨ tabF.getD kk 0 = 5 ∨ tabF.getD kk 0 = 6 ∨ tabF.getD kk 0 = 9) := Lib.hid (by
        match kk, hk0, hk with
        | 1, _, _ => decide
        | 2, _, _ => decide
        | 3, _, _ => decide
        | 4, _, _ => decide
        | 5, _, _ => decide
        | 6, _, _ => decide
        | 7, _, _ => decide
        | 8, _, _ => decide
        | 9, _, _ => decide
        | 10, _, _ => decide
        | 11, _, _ => decide
        | 12, _, _ => decide
        | 13, _, _ => decide
        | 14, _, _ => decide
        | 15, _, _ => decide
        | k + 16, _, hk => exact absurd hk (by omega))
      have OK9 := ok_ints [i1, i2, t, ck, a, b, cn, p, q] (fun z hz => hf.out z (by simp only [List.mem_cons, List.not_mem_nil, or_false] at hz ⊢; rcases hz with h | h | h | h | h | h | h | h | h <;> simp [h]))
      have SC := Lib.hid (show sameB (ints [i1, i2, t, ck, a, b, cn, p, q]) (ints [0, 0, 0, 0, 0, 0, 0, 0, 0]) = true ↔ (i1 = 0 ∧ i2 = 0 ∧ t = 0 ∧ ck = 0 ∧ a = 0 ∧ b = 0 ∧ cn = 0 ∧ p = 0 ∧ q = 0) from
        (sameB_iff OK9 (ok_ints [0, 0, 0, 0, 0, 0, 0, 0, 0] (by decide))).trans ⟨fun h => by have := ints_inj h; simpa using this, fun ⟨h1, h2, h3, h4, h5, h6, h7, h8, h9⟩ => by rw [h1, h2, h3, h4, h5, h6, h7, h8, h9]⟩)
      have OK2 := ok_ints [i1, i2] (fun z hz => hf.out z (by simp only [List.mem_cons, List.not_mem_nil, or_false] at hz ⊢; rcases hz with h | h <;> simp [h]))
      have SI := Lib.hid (show sameB (ints [i1, i2]) (ints [0, 0]) = true ↔ (i1 = 0 ∧ i2 = 0) from
        (sameB_iff OK2 (ok_ints [0, 0] (by decide))).trans ⟨fun h => by have := ints_inj h; simpa using this, fun ⟨h1, h2⟩ => by rw [h1, h2]⟩)
      have NCC := Lib.hid (fun w => neq_flat (P := Tryd.prog) 5 6 25 (List.replicate 9 (some IntKind.i64)) (ints [i1, i2, t, ck, a, b, cn, p, q]) (ints [0, 0, 0, 0, 0, 0, 0, 0, 0]) w (by kernel_rfl) (by kernel_rfl) (by kernel_rfl) (by kernel_rfl) (by decide) OK9 (ok_ints [0, 0, 0, 0, 0, 0, 0, 0, 0] (by decide)))
      have NIC := Lib.hid (fun w => neq_flat (P := Tryd.prog) 5 6 23 (List.replicate 2 (some IntKind.i64)) (ints [i1, i2]) (ints [0, 0]) w (by kernel_rfl) (by kernel_rfl) (by kernel_rfl) (by kernel_rfl) (by decide) OK2 (ok_ints [0, 0] (by decide)))
      have gC : Tryd.prog.eqGuardType Tryd.prog.depth 25 = false := by kernel_rfl
      have gI : Tryd.prog.eqGuardType Tryd.prog.depth 23 = false := by kernel_rfl
      clear JJ OK9 OK2 hk0 hk hf N1 N3 N4 cq cn3
      go_wp2_with fail
      refine (HC.out W2).mono ?_
      rintro e W3 ⟨rfl, hb3⟩
      unfold hasV
      have HA3 := Lib.hid (HA2.out.keep hb3 HA2.out.lt)
      have HB3 := Lib.hid (HB2.out.trans (hb3.mono HB2.out.size))
      clear hb3 HC HA2 HB2 HX ck0
      generalize tabF.getD kk 0 = F at *
      generalize hb0 : bit F 1 = b0 at *
      generalize hb1 : bit F 2 = b1 at *
      generalize hb2 : bit F 4 = b2 at *
      generalize hb3 : bit F 8 = b3 at *
      have HBS := Lib.hid (And.intro hb0 (And.intro hb1 (And.intro hb2 hb3)))
      clear hb0 hb1 hb2 hb3
      have HA6 := Lib.hid (HA3.out.alloc (.cells #[.bool b0, .bool b1, .bool b2, .bool b3] 56))
      have HB6 := Lib.hid (HB3.out.alloc HB3.out.size (.cells #[.bool b0, .bool b1, .bool b2, .bool b3] 56))
      have HS6 := Lib.hid (Blk.new W3 #[.bool b0, .bool b1, .bool b2, .bool b3] 56)
      go_upto_region 12 with fail
      generalize hg6 : W3.heap.size = g6 at *
      generalize W3.alloc (.cells #[.bool b0, .bool b1, .bool b2, .bool b3] 56) = W6 at *
      clear hg6 HA3 HB3 hz2
      have y0 : W6.cell? ⟨g6, 0, none⟩ = some (.bool b0) := HS6.out.cell 0
      have y1 : W6.cell? ⟨g6, 1, none⟩ = some (.bool b1) := HS6.out.cell 1
      have y2 : W6.cell? ⟨g6, 2, none⟩ = some (.bool b2) := HS6.out.cell 2
      have y3 : W6.cell? ⟨g6, 3, none⟩ = some (.bool b3) := HS6.out.cell 3
      clear HS6
      rcases F7.out with hF | hF | hF | hF | hF | hF | hF
      · subst hF
        obtain ⟨rfl, rfl, rfl, rfl⟩ : b0 = true ∧ b1 = false ∧ b2 = false ∧ b3 = false := ⟨HBS.out.1.symm, HBS.out.2.1.symm, HBS.out.2.2.1.symm, HBS.out.2.2.2.symm⟩
        clear HBS F7
        by_cases hz1 : i = 0
        · subst hz1
          by_cases hz2 : n = 0
          · subst hz2
            rcases hsc : sameB (ints [i1, i2, t, ck, a, b, cn, p, q]) (ints [0, 0, 0, 0, 0, 0, 0, 0, 0]) with _ | _
            · have NC := Lib.hid (fun w => show (binOp .neq 25 (.agg (ints [i1, i2, t, ck, a, b, cn, p, q]).toArray) (.agg (ints [0, 0, 0, 0, 0, 0, 0, 0, 0]).toArray)).run Tryd.prog w = .ok (.bool true) w from by have := NCC.out w; rw [hsc] at this; exact this)
              have SCN : ¬ (i1 = 0 ∧ i2 = 0 ∧ t = 0 ∧ ck = 0 ∧ a = 0 ∧ b = 0 ∧ cn = 0 ∧ p = 0 ∧ q = 0) := fun h => by have := SC.out.2 h; rw [hsc] at this; cases this
              have E := Lib.hid (JN.out (fun hj => by obtain ⟨j0, j1, j2, j3, j4, j5, j6⟩ := hj; have k6 := j6.resolve_left (by decide); exact SCN ⟨j3, j4, j5, k6⟩))
              have c1 : W6.cell? ⟨w.heap.size, 1, none⟩ = some (.int .i64 r) := HA6.out.cell 1
              have c2 : W6.cell? ⟨w.heap.size, 2, none⟩ = some (.int .i64 0) := HA6.out.cell 2
              have c3 : W6.cell? ⟨w.heap.size, 3, none⟩ = some (.int .i64 0) := HA6.out.cell 3
              have c6 : W6.cell? ⟨w.heap.size, 6, none⟩ = some (.int .i64 t) := HA6.out.cell 6
              have rc : W6.rangeAt w.heap.size 4 (ints [i1, i2, t, ck, a, b, cn, p, q]) := HA6.out.range 4 _ rfl
              have ri : W6.rangeAt w.heap.size 4 (ints [i1, i2]) := HA6.out.range 4 _ rfl
              have TC : RowT 25 (ints [i1, i2, t, ck, a, b, cn, p, q]).length := rowC
              have TI : RowT 23 (ints [i1, i2]).length := rowI
              go_wp2_with (first
                | ((with_reducible refine ld_row rc TC ?_ ?_ ?_); (· rfl); (· rfl); (simp only [Act.put, List.setIfInBounds_toArray, List.set_cons_zero, List.set_cons_succ]))
                | ((with_reducible refine ld_row ri TI ?_ ?_ ?_); (· rfl); (· rfl); (simp only [Act.put, List.setIfInBounds_toArray, List.set_cons_zero, List.set_cons_succ]))
                | ((with_reducible refine cmp_row gC NC.out ?_ ?_ ?_ ?_); (· first | rfl | (show _ = Value.agg (ints [i1, i2, t, ck, a, b, cn, p, q]).toArray; rfl)); (· first | rfl | (show _ = Value.agg (ints [0, 0, 0, 0, 0, 0, 0, 0, 0]).toArray; rfl)); (· rfl); (simp only [Act.put, List.setIfInBounds_toArray, List.set_cons_zero, List.set_cons_succ])))
              go_ret
              exact ⟨by rw [E.out]; rfl, HB6.out⟩
            · have NC := Lib.hid (fun w => show (binOp .neq 25 (.agg (ints [i1, i2, t, ck, a, b, cn, p, q]).toArray) (.agg (ints [0, 0, 0, 0, 0, 0, 0, 0, 0]).toArray)).run Tryd.prog w = .ok (.bool false) w from by have := NCC.out w; rw [hsc] at this; exact this)
              obtain ⟨e1, e2, e3, e4, e5, e6, e7, e8, e9⟩ := (SC.out.1 hsc)
              subst e1 e2 e3 e4 e5 e6 e7 e8 e9
              clear hsc SC
              have NI := Lib.hid (fun w => show (binOp .neq 23 (.agg (ints [0, 0]).toArray) (.agg (ints [0, 0]).toArray)).run Tryd.prog w = .ok (.bool false) w from by have := NIC.out w; rwa [sameB_refl] at this)
              have E := Lib.hid (JY.out ⟨Or.inl rfl, Or.inr rfl, Or.inr rfl, rfl, rfl, rfl, Or.inr ⟨rfl, rfl, rfl, rfl, rfl, rfl⟩⟩)
              have c1 : W6.cell? ⟨w.heap.size, 1, none⟩ = some (.int .i64 r) := HA6.out.cell 1
              have c2 : W6.cell? ⟨w.heap.size, 2, none⟩ = some (.int .i64 0) := HA6.out.cell 2
              have c3 : W6.cell? ⟨w.heap.size, 3, none⟩ = some (.int .i64 0) := HA6.out.cell 3
              have c6 : W6.cell? ⟨w.heap.size, 6, none⟩ = some (.int .i64 0) := HA6.out.cell 6
              have rc : W6.rangeAt w.heap.size 4 (ints [0, 0, 0, 0, 0, 0, 0, 0, 0]) := HA6.out.range 4 _ rfl
              have ri : W6.rangeAt w.heap.size 4 (ints [0, 0]) := HA6.out.range 4 _ rfl
              have TC : RowT 25 (ints [0, 0, 0, 0, 0, 0, 0, 0, 0]).length := rowC
              have TI : RowT 23 (ints [0, 0]).length := rowI
              go_wp2_with (first
                | ((with_reducible refine ld_row rc TC ?_ ?_ ?_); (· rfl); (· rfl); (simp only [Act.put, List.setIfInBounds_toArray, List.set_cons_zero, List.set_cons_succ]))
                | ((with_reducible refine ld_row ri TI ?_ ?_ ?_); (· rfl); (· rfl); (simp only [Act.put, List.setIfInBounds_toArray, List.set_cons_zero, List.set_cons_succ]))
                | ((with_reducible refine cmp_row gC NC.out ?_ ?_ ?_ ?_); (· first | rfl | (show _ = Value.agg (ints [0, 0, 0, 0, 0, 0, 0, 0, 0]).toArray; rfl)); (· first | rfl | (show _ = Value.agg (ints [0, 0, 0, 0, 0, 0, 0, 0, 0]).toArray; rfl)); (· rfl); (simp only [Act.put, List.setIfInBounds_toArray, List.set_cons_zero, List.set_cons_succ]))
                | ((with_reducible refine cmp_row gI NI.out ?_ ?_ ?_ ?_); (· first | rfl | (show _ = Value.agg (ints [0, 0]).toArray; rfl)); (· first | rfl | (show _ = Value.agg (ints [0, 0]).toArray; rfl)); (· rfl); (simp only [Act.put, List.setIfInBounds_toArray, List.set_cons_zero, List.set_cons_succ])))
              go_ret
              exact ⟨by rw [E.out]; rfl, HB6.out⟩
          · have E := Lib.hid (JN.out (fun hj => by obtain ⟨j0, j1, j2, j3, j4, j5, j6⟩ := hj; exact hz2 (j2.resolve_left (by decide))))
            have c1 : W6.cell? ⟨w.heap.size, 1, none⟩ = some (.int .i64 r) := HA6.out.cell 1
            have c2 : W6.cell? ⟨w.heap.size, 2, none⟩ = some (.int .i64 0) := HA6.out.cell 2
            have c3 : W6.cell? ⟨w.heap.size, 3, none⟩ = some (.int .i64 n) := HA6.out.cell 3
            have c6 : W6.cell? ⟨w.heap.size, 6, none⟩ = some (.int .i64 t) := HA6.out.cell 6
            have rc : W6.rangeAt w.heap.size 4 (ints [i1, i2, t, ck, a, b, cn, p, q]) := HA6.out.range 4 _ rfl
            have ri : W6.rangeAt w.heap.size 4 (ints [i1, i2]) := HA6.out.range 4 _ rfl
            have TC : RowT 25 (ints [i1, i2, t, ck, a, b, cn, p, q]).length := rowC
            have TI : RowT 23 (ints [i1, i2]).length := rowI
            go_wp2_with (first
              | ((with_reducible refine ld_row rc TC ?_ ?_ ?_); (· rfl); (· rfl); (simp only [Act.put, List.setIfInBounds_toArray, List.set_cons_zero, List.set_cons_succ]))
              | ((with_reducible refine ld_row ri TI ?_ ?_ ?_); (· rfl); (· rfl); (simp only [Act.put, List.setIfInBounds_toArray, List.set_cons_zero, List.set_cons_succ])))
            go_ret
            exact ⟨by rw [E.out]; rfl, HB6.out⟩
        · have E := Lib.hid (JN.out (fun hj => by obtain ⟨j0, j1, j2, j3, j4, j5, j6⟩ := hj; exact hz1 (j1.resolve_left (by decide))))
          have c1 : W6.cell? ⟨w.heap.size, 1, none⟩ = some (.int .i64 r) := HA6.out.cell 1
          have c2 : W6.cell? ⟨w.heap.size, 2, none⟩ = some (.int .i64 i) := HA6.out.cell 2
          have c3 : W6.cell? ⟨w.heap.size, 3, none⟩ = some (.int .i64 n) := HA6.out.cell 3
          have c6 : W6.cell? ⟨w.heap.size, 6, none⟩ = some (.int .i64 t) := HA6.out.cell 6
          have rc : W6.rangeAt w.heap.size 4 (ints [i1, i2, t, ck, a, b, cn, p, q]) := HA6.out.range 4 _ rfl
          have ri : W6.rangeAt w.heap.size 4 (ints [i1, i2]) := HA6.out.range 4 _ rfl
          have TC : RowT 25 (ints [i1, i2, t, ck, a, b, cn, p, q]).length := rowC
          have TI : RowT 23 (ints [i1, i2]).length := rowI
          go_wp2_with (first
            | ((with_reducible refine ld_row rc TC ?_ ?_ ?_); (· rfl); (· rfl); (simp only [Act.put, List.setIfInBounds_toArray, List.set_cons_zero, List.set_cons_succ]))
            | ((with_reducible refine ld_row ri TI ?_ ?_ ?_); (· rfl); (· rfl); (simp only [Act.put, List.setIfInBounds_toArray, List.set_cons_zero, List.set_cons_succ])))
          go_ret
          exact ⟨by rw [E.out]; rfl, HB6.out⟩
      · subst hF
        obtain ⟨rfl, rfl, rfl, rfl⟩ : b0 = false ∧ b1 = true ∧ b2 = false ∧ b3 = false := ⟨HBS.out.1.symm, HBS.out.2.1.symm, HBS.out.2.2.1.symm, HBS.out.2.2.2.symm⟩
        clear HBS F7
        by_cases hz0 : r = 0
        · subst hz0
          by_cases hz2 : n = 0
          · subst hz2
            rcases hsc : sameB (ints [i1, i2, t, ck, a, b, cn, p, q]) (ints [0, 0, 0, 0, 0, 0, 0, 0, 0]) with _ | _
            · have NC := Lib.hid (fun w => show (binOp .neq 25 (.agg (ints [i1, i2, t, ck, a, b, cn, p, q]).toArray) (.agg (ints [0, 0, 0, 0, 0, 0, 0, 0, 0]).toArray)).run Tryd.prog w = .ok (.bool true) w from by have := NCC.out w; rw [hsc] at this; exact this)
              have SCN : ¬ (i1 = 0 ∧ i2 = 0 ∧ t = 0 ∧ ck = 0 ∧ a = 0 ∧ b = 0 ∧ cn = 0 ∧ p = 0 ∧ q = 0) := fun h => by have := SC.out.2 h; rw [hsc] at this; cases this
              have E := Lib.hid (JN.out (fun hj => by obtain ⟨j0, j1, j2, j3, j4, j5, j6⟩ := hj; have k6 := j6.resolve_left (by decide); exact SCN ⟨j3, j4, j5, k6⟩))
              have c1 : W6.cell? ⟨w.heap.size, 1, none⟩ = some (.int .i64 0) := HA6.out.cell 1
              have c2 : W6.cell? ⟨w.heap.size, 2, none⟩ = some (.int .i64 i) := HA6.out.cell 2
              have c3 : W6.cell? ⟨w.heap.size, 3, none⟩ = some (.int .i64 0) := HA6.out.cell 3
              have c6 : W6.cell? ⟨w.heap.size, 6, none⟩ = some (.int .i64 t) := HA6.out.cell 6
              have rc : W6.rangeAt w.heap.size 4 (ints [i1, i2, t, ck, a, b, cn, p, q]) := HA6.out.range 4 _ rfl
              have ri : W6.rangeAt w.heap.size 4 (ints [i1, i2]) := HA6.out.range 4 _ rfl
              have TC : RowT 25 (ints [i1, i2, t, ck, a, b, cn, p, q]).length := rowC
              have TI : RowT 23 (ints [i1, i2]).length := rowI
              go_wp2_with (first
                | ((with_reducible refine ld_row rc TC ?_ ?_ ?_); (· rfl); (· rfl); (simp only [Act.put, List.setIfInBounds_toArray, List.set_cons_zero, List.set_cons_succ]))
                | ((with_reducible refine ld_row ri TI ?_ ?_ ?_); (· rfl); (· rfl); (simp only [Act.put, List.setIfInBounds_toArray, List.set_cons_zero, List.set_cons_succ]))
                | ((with_reducible refine cmp_row gC NC.out ?_ ?_ ?_ ?_); (· first | rfl | (show _ = Value.agg (ints [i1, i2, t, ck, a, b, cn, p, q]).toArray; rfl)); (· first | rfl | (show _ = Value.agg (ints [0, 0, 0, 0, 0, 0, 0, 0, 0]).toArray; rfl)); (· rfl); (simp only [Act.put, List.setIfInBounds_toArray, List.set_cons_zero, List.set_cons_succ])))
              go_ret
              exact ⟨by rw [E.out]; rfl, HB6.out⟩
            · have NC := Lib.hid (fun w => show (binOp .neq 25 (.agg (ints [i1, i2, t, ck, a, b, cn, p, q]).toArray) (.agg (ints [0, 0, 0, 0, 0, 0, 0, 0, 0]).toArray)).run Tryd.prog w = .ok (.bool false) w from by have := NCC.out w; rw [hsc] at this; exact this)
              obtain ⟨e1, e2, e3, e4, e5, e6, e7, e8, e9⟩ := (SC.out.1 hsc)
              subst e1 e2 e3 e4 e5 e6 e7 e8 e9
              clear hsc SC
              have NI := Lib.hid (fun w => show (binOp .neq 23 (.agg (ints [0, 0]).toArray) (.agg (ints [0, 0]).toArray)).run Tryd.prog w = .ok (.bool false) w from by have := NIC.out w; rwa [sameB_refl] at this)
              have E := Lib.hid (JY.out ⟨Or.inr rfl, Or.inl rfl, Or.inr rfl, rfl, rfl, rfl, Or.inr ⟨rfl, rfl, rfl, rfl, rfl, rfl⟩⟩)
              have c1 : W6.cell? ⟨w.heap.size, 1, none⟩ = some (.int .i64 0) := HA6.out.cell 1
              have c2 : W6.cell? ⟨w.heap.size, 2, none⟩ = some (.int .i64 i) := HA6.out.cell 2
              have c3 : W6.cell? ⟨w.heap.size, 3, none⟩ = some (.int .i64 0) := HA6.out.cell 3
              have c6 : W6.cell? ⟨w.heap.size, 6, none⟩ = some (.int .i64 0) := HA6.out.cell 6
              have rc : W6.rangeAt w.heap.size 4 (ints [0, 0, 0, 0, 0, 0, 0, 0, 0]) := HA6.out.range 4 _ rfl
              have ri : W6.rangeAt w.heap.size 4 (ints [0, 0]) := HA6.out.range 4 _ rfl
              have TC : RowT 25 (ints [0, 0, 0, 0, 0, 0, 0, 0, 0]).length := rowC
              have TI : RowT 23 (ints [0, 0]).length := rowI
              go_wp2_with (first
                | ((with_reducible refine ld_row rc TC ?_ ?_ ?_); (· rfl); (· rfl); (simp only [Act.put, List.setIfInBounds_toArray, List.set_cons_zero, List.set_cons_succ]))
                | ((with_reducible refine ld_row ri TI ?_ ?_ ?_); (· rfl); (· rfl); (simp only [Act.put, List.setIfInBounds_toArray, List.set_cons_zero, List.set_cons_succ]))
                | ((with_reducible refine cmp_row gC NC.out ?_ ?_ ?_ ?_); (· first | rfl | (show _ = Value.agg (ints [0, 0, 0, 0, 0, 0, 0, 0, 0]).toArray; rfl)); (· first | rfl | (show _ = Value.agg (ints [0, 0, 0, 0, 0, 0, 0, 0, 0]).toArray; rfl)); (· rfl); (simp only [Act.put, List.setIfInBounds_toArray, List.set_cons_zero, List.set_cons_succ]))
                | ((with_reducible refine cmp_row gI NI.out ?_ ?_ ?_ ?_); (· first | rfl | (show _ = Value.agg (ints [0, 0]).toArray; rfl)); (· first | rfl | (show _ = Value.agg (ints [0, 0]).toArray; rfl)); (· rfl); (simp only [Act.put, List.setIfInBounds_toArray, List.set_cons_zero, List.set_cons_succ])))
              go_ret
              exact ⟨by rw [E.out]; rfl, HB6.out⟩
          · have E := Lib.hid (JN.out (fun hj => by obtain ⟨j0, j1, j2, j3, j4, j5, j6⟩ := hj; exact hz2 (j2.resolve_left (by decide))))
            have c1 : W6.cell? ⟨w.heap.size, 1, none⟩ = some (.int .i64 0) := HA6.out.cell 1
            have c2 : W6.cell? ⟨w.heap.size, 2, none⟩ = some (.int .i64 i) := HA6.out.cell 2
            have c3 : W6.cell? ⟨w.heap.size, 3, none⟩ = some (.int .i64 n) := HA6.out.cell 3
            have c6 : W6.cell? ⟨w.heap.size, 6, none⟩ = some (.int .i64 t) := HA6.out.cell 6
            have rc : W6.rangeAt w.heap.size 4 (ints [i1, i2, t, ck, a, b, cn, p, q]) := HA6.out.range 4 _ rfl
            have ri : W6.rangeAt w.heap.size 4 (ints [i1, i2]) := HA6.out.range 4 _ rfl
            have TC : RowT 25 (ints [i1, i2, t, ck, a, b, cn, p, q]).length := rowC
            have TI : RowT 23 (ints [i1, i2]).length := rowI
            go_wp2_with (first
              | ((with_reducible refine ld_row rc TC ?_ ?_ ?_); (· rfl); (· rfl); (simp only [Act.put, List.setIfInBounds_toArray, List.set_cons_zero, List.set_cons_succ]))
              | ((with_reducible refine ld_row ri TI ?_ ?_ ?_); (· rfl); (· rfl); (simp only [Act.put, List.setIfInBounds_toArray, List.set_cons_zero, List.set_cons_succ])))
            go_ret
            exact ⟨by rw [E.out]; rfl, HB6.out⟩
        · have E := Lib.hid (JN.out (fun hj => by obtain ⟨j0, j1, j2, j3, j4, j5, j6⟩ := hj; exact hz0 (j0.resolve_left (by decide))))
          have c1 : W6.cell? ⟨w.heap.size, 1, none⟩ = some (.int .i64 r) := HA6.out.cell 1
          have c2 : W6.cell? ⟨w.heap.size, 2, none⟩ = some (.int .i64 i) := HA6.out.cell 2
          have c3 : W6.cell? ⟨w.heap.size, 3, none⟩ = some (.int .i64 n) := HA6.out.cell 3
          have c6 : W6.cell? ⟨w.heap.size, 6, none⟩ = some (.int .i64 t) := HA6.out.cell 6
          have rc : W6.rangeAt w.heap.size 4 (ints [i1, i2, t, ck, a, b, cn, p, q]) := HA6.out.range 4 _ rfl
          have ri : W6.rangeAt w.heap.size 4 (ints [i1, i2]) := HA6.out.range 4 _ rfl
          have TC : RowT 25 (ints [i1, i2, t, ck, a, b, cn, p, q]).length := rowC
          have TI : RowT 23 (ints [i1, i2]).length := rowI
          go_wp2_with (first
            | ((with_reducible refine ld_row rc TC ?_ ?_ ?_); (· rfl); (· rfl); (simp only [Act.put, List.setIfInBounds_toArray, List.set_cons_zero, List.set_cons_succ]))
            | ((with_reducible refine ld_row ri TI ?_ ?_ ?_); (· rfl); (· rfl); (simp only [Act.put, List.setIfInBounds_toArray, List.set_cons_zero, List.set_cons_succ])))
          go_ret
          exact ⟨by rw [E.out]; rfl, HB6.out⟩
      · subst hF
        obtain ⟨rfl, rfl, rfl, rfl⟩ : b0 = true ∧ b1 = true ∧ b2 = false ∧ b3 = false := ⟨HBS.out.1.symm, HBS.out.2.1.symm, HBS.out.2.2.1.symm, HBS.out.2.2.2.symm⟩
        clear HBS F7
        by_cases hz2 : n = 0
        · subst hz2
          rcases hsc : sameB (ints [i1, i2, t, ck, a, b, cn, p, q]) (ints [0, 0, 0, 0, 0, 0, 0, 0, 0]) with _ | _
          · have NC := Lib.hid (fun w => show (binOp .neq 25 (.agg (ints [i1, i2, t, ck, a, b, cn, p, q]).toArray) (.agg (ints [0, 0, 0, 0, 0, 0, 0, 0, 0]).toArray)).run Tryd.prog w = .ok (.bool true) w from by have := NCC.out w; rw [hsc] at this; exact this)
            have SCN : ¬ (i1 = 0 ∧ i2 = 0 ∧ t = 0 ∧ ck = 0 ∧ a = 0 ∧ b = 0 ∧ cn = 0 ∧ p = 0 ∧ q = 0) := fun h => by have := SC.out.2 h; rw [hsc] at this; cases this
            have E := Lib.hid (JN.out (fun hj => by obtain ⟨j0, j1, j2, j3, j4, j5, j6⟩ := hj; have k6 := j6.resolve_left (by decide); exact SCN ⟨j3, j4, j5, k6⟩))
            have c1 : W6.cell? ⟨w.heap.size, 1, none⟩ = some (.int .i64 r) := HA6.out.cell 1
            have c2 : W6.cell? ⟨w.heap.size, 2, none⟩ = some (.int .i64 i) := HA6.out.cell 2
            have c3 : W6.cell? ⟨w.heap.size, 3, none⟩ = some (.int .i64 0) := HA6.out.cell 3
            have c6 : W6.cell? ⟨w.heap.size, 6, none⟩ = some (.int .i64 t) := HA6.out.cell 6
            have rc : W6.rangeAt w.heap.size 4 (ints [i1, i2, t, ck, a, b, cn, p, q]) := HA6.out.range 4 _ rfl
            have ri : W6.rangeAt w.heap.size 4 (ints [i1, i2]) := HA6.out.range 4 _ rfl
            have TC : RowT 25 (ints [i1, i2, t, ck, a, b, cn, p, q]).length := rowC
            have TI : RowT 23 (ints [i1, i2]).length := rowI
            go_wp2_with (first
              | ((with_reducible refine ld_row rc TC ?_ ?_ ?_); (· rfl); (· rfl); (simp only [Act.put, List.setIfInBounds_toArray, List.set_cons_zero, List.set_cons_succ]))
              | ((with_reducible refine ld_row ri TI ?_ ?_ ?_); (· rfl); (· rfl); (simp only [Act.put, List.setIfInBounds_toArray, List.set_cons_zero, List.set_cons_succ]))
              | ((with_reducible refine cmp_row gC NC.out ?_ ?_ ?_ ?_); (· first | rfl | (show _ = Value.agg (ints [i1, i2, t, ck, a, b, cn, p, q]).toArray; rfl)); (· first | rfl | (show _ = Value.agg (ints [0, 0, 0, 0, 0, 0, 0, 0, 0]).toArray; rfl)); (· rfl); (simp only [Act.put, List.setIfInBounds_toArray, List.set_cons_zero, List.set_cons_succ])))
            go_ret
            exact ⟨by rw [E.out]; rfl, HB6.out⟩
          · have NC := Lib.hid (fun w => show (binOp .neq 25 (.agg (ints [i1, i2, t, ck, a, b, cn, p, q]).toArray) (.agg (ints [0, 0, 0, 0, 0, 0, 0, 0, 0]).toArray)).run Tryd.prog w = .ok (.bool false) w from by have := NCC.out w; rw [hsc] at this; exact this)
            obtain ⟨e1, e2, e3, e4, e5, e6, e7, e8, e9⟩ := (SC.out.1 hsc)
            subst e1 e2 e3 e4 e5 e6 e7 e8 e9
            clear hsc SC
            have NI := Lib.hid (fun w => show (binOp .neq 23 (.agg (ints [0, 0]).toArray) (.agg (ints [0, 0]).toArray)).run Tryd.prog w = .ok (.bool false) w from by have := NIC.out w; rwa [sameB_refl] at this)
            have E := Lib.hid (JY.out ⟨Or.inl rfl, Or.inl rfl, Or.inr rfl, rfl, rfl, rfl, Or.inr ⟨rfl, rfl, rfl, rfl, rfl, rfl⟩⟩)
            have c1 : W6.cell? ⟨w.heap.size, 1, none⟩ = some (.int .i64 r) := HA6.out.cell 1
            have c2 : W6.cell? ⟨w.heap.size, 2, none⟩ = some (.int .i64 i) := HA6.out.cell 2
            have c3 : W6.cell? ⟨w.heap.size, 3, none⟩ = some (.int .i64 0) := HA6.out.cell 3
            have c6 : W6.cell? ⟨w.heap.size, 6, none⟩ = some (.int .i64 0) := HA6.out.cell 6
            have rc : W6.rangeAt w.heap.size 4 (ints [0, 0, 0, 0, 0, 0, 0, 0, 0]) := HA6.out.range 4 _ rfl
            have ri : W6.rangeAt w.heap.size 4 (ints [0, 0]) := HA6.out.range 4 _ rfl
            have TC : RowT 25 (ints [0, 0, 0, 0, 0, 0, 0, 0, 0]).length := rowC
            have TI : RowT 23 (ints [0, 0]).length := rowI
            go_wp2_with (first
              | ((with_reducible refine ld_row rc TC ?_ ?_ ?_); (· rfl); (· rfl); (simp only [Act.put, List.setIfInBounds_toArray, List.set_cons_zero, List.set_cons_succ]))
              | ((with_reducible refine ld_row ri TI ?_ ?_ ?_); (· rfl); (· rfl); (simp only [Act.put, List.setIfInBounds_toArray, List.set_cons_zero, List.set_cons_succ]))
              | ((with_reducible refine cmp_row gC NC.out ?_ ?_ ?_ ?_); (· first | rfl | (show _ = Value.agg (ints [0, 0, 0, 0, 0, 0, 0, 0, 0]).toArray; rfl)); (· first | rfl | (show _ = Value.agg (ints [0, 0, 0, 0, 0, 0, 0, 0, 0]).toArray; rfl)); (· rfl); (simp only [Act.put, List.setIfInBounds_toArray, List.set_cons_zero, List.set_cons_succ]))
              | ((with_reducible refine cmp_row gI NI.out ?_ ?_ ?_ ?_); (· first | rfl | (show _ = Value.agg (ints [0, 0]).toArray; rfl)); (· first | rfl | (show _ = Value.agg (ints [0, 0]).toArray; rfl)); (· rfl); (simp only [Act.put, List.setIfInBounds_toArray, List.set_cons_zero, List.set_cons_succ])))
            go_ret
            exact ⟨by rw [E.out]; rfl, HB6.out⟩
        · have E := Lib.hid (JN.out (fun hj => by obtain ⟨j0, j1, j2, j3, j4, j5, j6⟩ := hj; exact hz2 (j2.resolve_left (by decide))))
          have c1 : W6.cell? ⟨w.heap.size, 1, none⟩ = some (.int .i64 r) := HA6.out.cell 1
          have c2 : W6.cell? ⟨w.heap.size, 2, none⟩ = some (.int .i64 i) := HA6.out.cell 2
          have c3 : W6.cell? ⟨w.heap.size, 3, none⟩ = some (.int .i64 n) := HA6.out.cell 3
          have c6 : W6.cell? ⟨w.heap.size, 6, none⟩ = some (.int .i64 t) := HA6.out.cell 6
          have rc : W6.rangeAt w.heap.size 4 (ints [i1, i2, t, ck, a, b, cn, p, q]) := HA6.out.range 4 _ rfl
          have ri : W6.rangeAt w.heap.size 4 (ints [i1, i2]) := HA6.out.range 4 _ rfl
          have TC : RowT 25 (ints [i1, i2, t, ck, a, b, cn, p, q]).length := rowC
          have TI : RowT 23 (ints [i1, i2]).length := rowI
          go_wp2_with (first
            | ((with_reducible refine ld_row rc TC ?_ ?_ ?_); (· rfl); (· rfl); (simp only [Act.put, List.setIfInBounds_toArray, List.set_cons_zero, List.set_cons_succ]))
            | ((with_reducible refine ld_row ri TI ?_ ?_ ?_); (· rfl); (· rfl); (simp only [Act.put, List.setIfInBounds_toArray, List.set_cons_zero, List.set_cons_succ])))
          go_ret
          exact ⟨by rw [E.out]; rfl, HB6.out⟩
      · subst hF
        obtain ⟨rfl, rfl, rfl, rfl⟩ : b0 = false ∧ b1 = false ∧ b2 = true ∧ b3 = false := ⟨HBS.out.1.symm, HBS.out.2.1.symm, HBS.out.2.2.1.symm, HBS.out.2.2.2.symm⟩
        clear HBS F7
        by_cases hz0 : r = 0
        · subst hz0
          by_cases hz1 : i = 0
          · subst hz1
            rcases hsc : sameB (ints [i1, i2, t, ck, a, b, cn, p, q]) (ints [0, 0, 0, 0, 0, 0, 0, 0, 0]) with _ | _
            · have NC := Lib.hid (fun w => show (binOp .neq 25 (.agg (ints [i1, i2, t, ck, a, b, cn, p, q]).toArray) (.agg (ints [0, 0, 0, 0, 0, 0, 0, 0, 0]).toArray)).run Tryd.prog w = .ok (.bool true) w from by have := NCC.out w; rw [hsc] at this; exact this)
              have SCN : ¬ (i1 = 0 ∧ i2 = 0 ∧ t = 0 ∧ ck = 0 ∧ a = 0 ∧ b = 0 ∧ cn = 0 ∧ p = 0 ∧ q = 0) := fun h => by have := SC.out.2 h; rw [hsc] at this; cases this
              have E := Lib.hid (JN.out (fun hj => by obtain ⟨j0, j1, j2, j3, j4, j5, j6⟩ := hj; have k6 := j6.resolve_left (by decide); exact SCN ⟨j3, j4, j5, k6⟩))
              have c1 : W6.cell? ⟨w.heap.size, 1, none⟩ = some (.int .i64 0) := HA6.out.cell 1
              have c2 : W6.cell? ⟨w.heap.size, 2, none⟩ = some (.int .i64 0) := HA6.out.cell 2
              have c3 : W6.cell? ⟨w.heap.size, 3, none⟩ = some (.int .i64 n) := HA6.out.cell 3
              have c6 : W6.cell? ⟨w.heap.size, 6, none⟩ = some (.int .i64 t) := HA6.out.cell 6
              have rc : W6.rangeAt w.heap.size 4 (ints [i1, i2, t, ck, a, b, cn, p, q]) := HA6.out.range 4 _ rfl
              have ri : W6.rangeAt w.heap.size 4 (ints [i1, i2]) := HA6.out.range 4 _ rfl
              have TC : RowT 25 (ints [i1, i2, t, ck, a, b, cn, p, q]).length := rowC
              have TI : RowT 23 (ints [i1, i2]).length := rowI
              go_wp2_with (first
                | ((with_reducible refine ld_row rc TC ?_ ?_ ?_); (· rfl); (· rfl); (simp only [Act.put, List.setIfInBounds_toArray, List.set_cons_zero, List.set_cons_succ]))
                | ((with_reducible refine ld_row ri TI ?_ ?_ ?_); (· rfl); (· rfl); (simp only [Act.put, List.setIfInBounds_toArray, List.set_cons_zero, List.set_cons_succ]))
                | ((with_reducible refine cmp_row gC NC.out ?_ ?_ ?_ ?_); (· first | rfl | (show _ = Value.agg (ints [i1, i2, t, ck, a, b, cn, p, q]).toArray; rfl)); (· first | rfl | (show _ = Value.agg (ints [0, 0, 0, 0, 0, 0, 0, 0, 0]).toArray; rfl)); (· rfl); (simp only [Act.put, List.setIfInBounds_toArray, List.set_cons_zero, List.set_cons_succ])))
              go_ret
              exact ⟨by rw [E.out]; rfl, HB6.out⟩
            · have NC := Lib.hid (fun w => show (binOp .neq 25 (.agg (ints [i1, i2, t, ck, a, b, cn, p, q]).toArray) (.agg (ints [0, 0, 0, 0, 0, 0, 0, 0, 0]).toArray)).run Tryd.prog w = .ok (.bool false) w from by have := NCC.out w; rw [hsc] at this; exact this)
              obtain ⟨e1, e2, e3, e4, e5, e6, e7, e8, e9⟩ := (SC.out.1 hsc)
              subst e1 e2 e3 e4 e5 e6 e7 e8 e9
              clear hsc SC
              have NI := Lib.hid (fun w => show (binOp .neq 23 (.agg (ints [0, 0]).toArray) (.agg (ints [0, 0]).toArray)).run Tryd.prog w = .ok (.bool false) w from by have := NIC.out w; rwa [sameB_refl] at this)
              have E := Lib.hid (JY.out ⟨Or.inr rfl, Or.inr rfl, Or.inl rfl, rfl, rfl, rfl, Or.inr ⟨rfl, rfl, rfl, rfl, rfl, rfl⟩⟩)
              have c1 : W6.cell? ⟨w.heap.size, 1, none⟩ = some (.int .i64 0) := HA6.out.cell 1
              have c2 : W6.cell? ⟨w.heap.size, 2, none⟩ = some (.int .i64 0) := HA6.out.cell 2
              have c3 : W6.cell? ⟨w.heap.size, 3, none⟩ = some (.int .i64 n) := HA6.out.cell 3
              have c6 : W6.cell? ⟨w.heap.size, 6, none⟩ = some (.int .i64 0) := HA6.out.cell 6
              have rc : W6.rangeAt w.heap.size 4 (ints [0, 0, 0, 0, 0, 0, 0, 0, 0]) := HA6.out.range 4 _ rfl
              have ri : W6.rangeAt w.heap.size 4 (ints [0, 0]) := HA6.out.range 4 _ rfl
              have TC : RowT 25 (ints [0, 0, 0, 0, 0, 0, 0, 0, 0]).length := rowC
              have TI : RowT 23 (ints [0, 0]).length := rowI
              go_wp2_with (first
                | ((with_reducible refine ld_row rc TC ?_ ?_ ?_); (· rfl); (· rfl); (simp only [Act.put, List.setIfInBounds_toArray, List.set_cons_zero, List.set_cons_succ]))
                | ((with_reducible refine ld_row ri TI ?_ ?_ ?_); (· rfl); (· rfl); (simp only [Act.put, List.setIfInBounds_toArray, List.set_cons_zero, List.set_cons_succ]))
                | ((with_reducible refine cmp_row gC NC.out ?_ ?_ ?_ ?_); (· first | rfl | (show _ = Value.agg (ints [0, 0, 0, 0, 0, 0, 0, 0, 0]).toArray; rfl)); (· first | rfl | (show _ = Value.agg (ints [0, 0, 0, 0, 0, 0, 0, 0, 0]).toArray; rfl)); (· rfl); (simp only [Act.put, List.setIfInBounds_toArray, List.set_cons_zero, List.set_cons_succ]))
                | ((with_reducible refine cmp_row gI NI.out ?_ ?_ ?_ ?_); (· first | rfl | (show _ = Value.agg (ints [0, 0]).toArray; rfl)); (· first | rfl | (show _ = Value.agg (ints [0, 0]).toArray; rfl)); (· rfl); (simp only [Act.put, List.setIfInBounds_toArray, List.set_cons_zero, List.set_cons_succ])))
              go_ret
              exact ⟨by rw [E.out]; rfl, HB6.out⟩
          · have E := Lib.hid (JN.out (fun hj => by obtain ⟨j0, j1, j2, j3, j4, j5, j6⟩ := hj; exact hz1 (j1.resolve_left (by decide))))
            have c1 : W6.cell? ⟨w.heap.size, 1, none⟩ = some (.int .i64 0) := HA6.out.cell 1
            have c2 : W6.cell? ⟨w.heap.size, 2, none⟩ = some (.int .i64 i) := HA6.out.cell 2
            have c3 : W6.cell? ⟨w.heap.size, 3, none⟩ = some (.int .i64 n) := HA6.out.cell 3
            have c6 : W6.cell? ⟨w.heap.size, 6, none⟩ = some (.int .i64 t) := HA6.out.cell 6
            have rc : W6.rangeAt w.heap.size 4 (ints [i1, i2, t, ck, a, b, cn, p, q]) := HA6.out.range 4 _ rfl
            have ri : W6.rangeAt w.heap.size 4 (ints [i1, i2]) := HA6.out.range 4 _ rfl
            have TC : RowT 25 (ints [i1, i2, t, ck, a, b, cn, p, q]).length := rowC
            have TI : RowT 23 (ints [i1, i2]).length := rowI
            go_wp2_with (first
              | ((with_reducible refine ld_row rc TC ?_ ?_ ?_); (· rfl); (· rfl); (simp only [Act.put, List.setIfInBounds_toArray, List.set_cons_zero, List.set_cons_succ]))
              | ((with_reducible refine ld_row ri TI ?_ ?_ ?_); (· rfl); (· rfl); (simp only [Act.put, List.setIfInBounds_toArray, List.set_cons_zero, List.set_cons_succ])))
            go_ret
            exact ⟨by rw [E.out]; rfl, HB6.out⟩
        · have E := Lib.hid (JN.out (fun hj => by obtain ⟨j0, j1, j2, j3, j4, j5, j6⟩ := hj; exact hz0 (j0.resolve_left (by decide))))
          have c1 : W6.cell? ⟨w.heap.size, 1, none⟩ = some (.int .i64 r) := HA6.out.cell 1
          have c2 : W6.cell? ⟨w.heap.size, 2, none⟩ = some (.int .i64 i) := HA6.out.cell 2
          have c3 : W6.cell? ⟨w.heap.size, 3, none⟩ = some (.int .i64 n) := HA6.out.cell 3
          have c6 : W6.cell? ⟨w.heap.size, 6, none⟩ = some (.int .i64 t) := HA6.out.cell 6
          have rc : W6.rangeAt w.heap.size 4 (ints [i1, i2, t, ck, a, b, cn, p, q]) := HA6.out.range 4 _ rfl
          have ri : W6.rangeAt w.heap.size 4 (ints [i1, i2]) := HA6.out.range 4 _ rfl
          have TC : RowT 25 (ints [i1, i2, t, ck, a, b, cn, p, q]).length := rowC
          have TI : RowT 23 (ints [i1, i2]).length := rowI
          go_wp2_with (first
            | ((with_reducible refine ld_row rc TC ?_ ?_ ?_); (· rfl); (· rfl); (simp only [Act.put, List.setIfInBounds_toArray, List.set_cons_zero, List.set_cons_succ]))
            | ((with_reducible refine ld_row ri TI ?_ ?_ ?_); (· rfl); (· rfl); (simp only [Act.put, List.setIfInBounds_toArray, List.set_cons_zero, List.set_cons_succ])))
          go_ret
          exact ⟨by rw [E.out]; rfl, HB6.out⟩
      · subst hF
        obtain ⟨rfl, rfl, rfl, rfl⟩ : b0 = true ∧ b1 = false ∧ b2 = true ∧ b3 = false := ⟨HBS.out.1.symm, HBS.out.2.1.symm, HBS.out.2.2.1.symm, HBS.out.2.2.2.symm⟩
        clear HBS F7
        by_cases hz1 : i = 0
        · subst hz1
          rcases hsc : sameB (ints [i1, i2, t, ck, a, b, cn, p, q]) (ints [0, 0, 0, 0, 0, 0, 0, 0, 0]) with _ | _
          · have NC := Lib.hid (fun w => show (binOp .neq 25 (.agg (ints [i1, i2, t, ck, a, b, cn, p, q]).toArray) (.agg (ints [0, 0, 0, 0, 0, 0, 0, 0, 0]).toArray)).run Tryd.prog w = .ok (.bool true) w from by have := NCC.out w; rw [hsc] at this; exact this)
            have SCN : ¬ (i1 = 0 ∧ i2 = 0 ∧ t = 0 ∧ ck = 0 ∧ a = 0 ∧ b = 0 ∧ cn = 0 ∧ p = 0 ∧ q = 0) := fun h => by have := SC.out.2 h; rw [hsc] at this; cases this
            have E := Lib.hid (JN.out (fun hj => by obtain ⟨j0, j1, j2, j3, j4, j5, j6⟩ := hj; have k6 := j6.resolve_left (by decide); exact SCN ⟨j3, j4, j5, k6⟩))
            have c1 : W6.cell? ⟨w.heap.size, 1, none⟩ = some (.int .i64 r) := HA6.out.cell 1
            have c2 : W6.cell? ⟨w.heap.size, 2, none⟩ = some (.int .i64 0) := HA6.out.cell 2
            have c3 : W6.cell? ⟨w.heap.size, 3, none⟩ = some (.int .i64 n) := HA6.out.cell 3
            have c6 : W6.cell? ⟨w.heap.size, 6, none⟩ = some (.int .i64 t) := HA6.out.cell 6
            have rc : W6.rangeAt w.heap.size 4 (ints [i1, i2, t, ck, a, b, cn, p, q]) := HA6.out.range 4 _ rfl
            have ri : W6.rangeAt w.heap.size 4 (ints [i1, i2]) := HA6.out.range 4 _ rfl
            have TC : RowT 25 (ints [i1, i2, t, ck, a, b, cn, p, q]).length := rowC
            have TI : RowT 23 (ints [i1, i2]).length := rowI
            go_wp2_with (first
              | ((with_reducible refine ld_row rc TC ?_ ?_ ?_); (· rfl); (· rfl); (simp only [Act.put, List.setIfInBounds_toArray, List.set_cons_zero, List.set_cons_succ]))
              | ((with_reducible refine ld_row ri TI ?_ ?_ ?_); (· rfl); (· rfl); (simp only [Act.put, List.setIfInBounds_toArray, List.set_cons_zero, List.set_cons_succ]))
              | ((with_reducible refine cmp_row gC NC.out ?_ ?_ ?_ ?_); (· first | rfl | (show _ = Value.agg (ints [i1, i2, t, ck, a, b, cn, p, q]).toArray; rfl)); (· first | rfl | (show _ = Value.agg (ints [0, 0, 0, 0, 0, 0, 0, 0, 0]).toArray; rfl)); (· rfl); (simp only [Act.put, List.setIfInBounds_toArray, List.set_cons_zero, List.set_cons_succ])))
            go_ret
            exact ⟨by rw [E.out]; rfl, HB6.out⟩
          · have NC := Lib.hid (fun w => show (binOp .neq 25 (.agg (ints [i1, i2, t, ck, a, b, cn, p, q]).toArray) (.agg (ints [0, 0, 0, 0, 0, 0, 0, 0, 0]).toArray)).run Tryd.prog w = .ok (.bool false) w from by have := NCC.out w; rw [hsc] at this; exact this)
            obtain ⟨e1, e2, e3, e4, e5, e6, e7, e8, e9⟩ := (SC.out.1 hsc)
            subst e1 e2 e3 e4 e5 e6 e7 e8 e9
            clear hsc SC
            have NI := Lib.hid (fun w => show (binOp .neq 23 (.agg (ints [0, 0]).toArray) (.agg (ints [0, 0]).toArray)).run Tryd.prog w = .ok (.bool false) w from by have := NIC.out w; rwa [sameB_refl] at this)
            have E := Lib.hid (JY.out ⟨Or.inl rfl, Or.inr rfl, Or.inl rfl, rfl, rfl, rfl, Or.inr ⟨rfl, rfl, rfl, rfl, rfl, rfl⟩⟩)
            have c1 : W6.cell? ⟨w.heap.size, 1, none⟩ = some (.int .i64 r) := HA6.out.cell 1
            have c2 : W6.cell? ⟨w.heap.size, 2, none⟩ = some (.int .i64 0) := HA6.out.cell 2
            have c3 : W6.cell? ⟨w.heap.size, 3, none⟩ = some (.int .i64 n) := HA6.out.cell 3
            have c6 : W6.cell? ⟨w.heap.size, 6, none⟩ = some (.int .i64 0) := HA6.out.cell 6
            have rc : W6.rangeAt w.heap.size 4 (ints [0, 0, 0, 0, 0, 0, 0, 0, 0]) := HA6.out.range 4 _ rfl
            have ri : W6.rangeAt w.heap.size 4 (ints [0, 0]) := HA6.out.range 4 _ rfl
            have TC : RowT 25 (ints [0, 0, 0, 0, 0, 0, 0, 0, 0]).length := rowC
            have TI : RowT 23 (ints [0, 0]).length := rowI
            go_wp2_with (first
              | ((with_reducible refine ld_row rc TC ?_ ?_ ?_); (· rfl); (· rfl); (simp only [Act.put, List.setIfInBounds_toArray, List.set_cons_zero, List.set_cons_succ]))
              | ((with_reducible refine ld_row ri TI ?_ ?_ ?_); (· rfl); (· rfl); (simp only [Act.put, List.setIfInBounds_toArray, List.set_cons_zero, List.set_cons_succ]))
              | ((with_reducible refine cmp_row gC NC.out ?_ ?_ ?_ ?_); (· first | rfl | (show _ = Value.agg (ints [0, 0, 0, 0, 0, 0, 0, 0, 0]).toArray; rfl)); (· first | rfl | (show _ = Value.agg (ints [0, 0, 0, 0, 0, 0, 0, 0, 0]).toArray; rfl)); (· rfl); (simp only [Act.put, List.setIfInBounds_toArray, List.set_cons_zero, List.set_cons_succ]))
              | ((with_reducible refine cmp_row gI NI.out ?_ ?_ ?_ ?_); (· first | rfl | (show _ = Value.agg (ints [0, 0]).toArray; rfl)); (· first | rfl | (show _ = Value.agg (ints [0, 0]).toArray; rfl)); (· rfl); (simp only [Act.put, List.setIfInBounds_toArray, List.set_cons_zero, List.set_cons_succ])))
            go_ret
            exact ⟨by rw [E.out]; rfl, HB6.out⟩
        · have E := Lib.hid (JN.out (fun hj => by obtain ⟨j0, j1, j2, j3, j4, j5, j6⟩ := hj; exact hz1 (j1.resolve_left (by decide))))
          have c1 : W6.cell? ⟨w.heap.size, 1, none⟩ = some (.int .i64 r) := HA6.out.cell 1
          have c2 : W6.cell? ⟨w.heap.size, 2, none⟩ = some (.int .i64 i) := HA6.out.cell 2
          have c3 : W6.cell? ⟨w.heap.size, 3, none⟩ = some (.int .i64 n) := HA6.out.cell 3
          have c6 : W6.cell? ⟨w.heap.size, 6, none⟩ = some (.int .i64 t) := HA6.out.cell 6
          have rc : W6.rangeAt w.heap.size 4 (ints [i1, i2, t, ck, a, b, cn, p, q]) := HA6.out.range 4 _ rfl
          have ri : W6.rangeAt w.heap.size 4 (ints [i1, i2]) := HA6.out.range 4 _ rfl
          have TC : RowT 25 (ints [i1, i2, t, ck, a, b, cn, p, q]).length := rowC
          have TI : RowT 23 (ints [i1, i2]).length := rowI
          go_wp2_with (first
            | ((with_reducible refine ld_row rc TC ?_ ?_ ?_); (· rfl); (· rfl); (simp only [Act.put, List.setIfInBounds_toArray, List.set_cons_zero, List.set_cons_succ]))
            | ((with_reducible refine ld_row ri TI ?_ ?_ ?_); (· rfl); (· rfl); (simp only [Act.put, List.setIfInBounds_toArray, List.set_cons_zero, List.set_cons_succ])))
          go_ret
          exact ⟨by rw [E.out]; rfl, HB6.out⟩
      · subst hF
        obtain ⟨rfl, rfl, rfl, rfl⟩ : b0 = false ∧ b1 = true ∧ b2 = true ∧ b3 = false := ⟨HBS.out.1.symm, HBS.out.2.1.symm, HBS.out.2.2.1.symm, HBS.out.2.2.2.symm⟩
        clear HBS F7
        by_cases hz0 : r = 0
        · subst hz0
          rcases hsc : sameB (ints [i1, i2, t, ck, a, b, cn, p, q]) (ints [0, 0, 0, 0, 0, 0, 0, 0, 0]) with _ | _
          · have NC := Lib.hid (fun w => show (binOp .neq 25 (.agg (ints [i1, i2, t, ck, a, b, cn, p, q]).toArray) (.agg (ints [0, 0, 0, 0, 0, 0, 0, 0, 0]).toArray)).run Tryd.prog w = .ok (.bool true) w from by have := NCC.out w; rw [hsc] at this; exact this)
            have SCN : ¬ (i1 = 0 ∧ i2 = 0 ∧ t = 0 ∧ ck = 0 ∧ a = 0 ∧ b = 0 ∧ cn = 0 ∧ p = 0 ∧ q = 0) := fun h => by have := SC.out.2 h; rw [hsc] at this; cases this
            have E := Lib.hid (JN.out (fun hj => by obtain ⟨j0, j1, j2, j3, j4, j5, j6⟩ := hj; have k6 := j6.resolve_left (by decide); exact SCN ⟨j3, j4, j5, k6⟩))
            have c1 : W6.cell? ⟨w.heap.size, 1, none⟩ = some (.int .i64 0) := HA6.out.cell 1
            have c2 : W6.cell? ⟨w.heap.size, 2, none⟩ = some (.int .i64 i) := HA6.out.cell 2
            have c3 : W6.cell? ⟨w.heap.size, 3, none⟩ = some (.int .i64 n) := HA6.out.cell 3
            have c6 : W6.cell? ⟨w.heap.size, 6, none⟩ = some (.int .i64 t) := HA6.out.cell 6
            have rc : W6.rangeAt w.heap.size 4 (ints [i1, i2, t, ck, a, b, cn, p, q]) := HA6.out.range 4 _ rfl
            have ri : W6.rangeAt w.heap.size 4 (ints [i1, i2]) := HA6.out.range 4 _ rfl
            have TC : RowT 25 (ints [i1, i2, t, ck, a, b, cn, p, q]).length := rowC
            have TI : RowT 23 (ints [i1, i2]).length := rowI
            go_wp2_with (first
              | ((with_reducible refine ld_row rc TC ?_ ?_ ?_); (· rfl); (· rfl); (simp only [Act.put, List.setIfInBounds_toArray, List.set_cons_zero, List.set_cons_succ]))
              | ((with_reducible refine ld_row ri TI ?_ ?_ ?_); (· rfl); (· rfl); (simp only [Act.put, List.setIfInBounds_toArray, List.set_cons_zero, List.set_cons_succ]))
              | ((with_reducible refine cmp_row gC NC.out ?_ ?_ ?_ ?_); (· first | rfl | (show _ = Value.agg (ints [i1, i2, t, ck, a, b, cn, p, q]).toArray; rfl)); (· first | rfl | (show _ = Value.agg (ints [0, 0, 0, 0, 0, 0, 0, 0, 0]).toArray; rfl)); (· rfl); (simp only [Act.put, List.setIfInBounds_toArray, List.set_cons_zero, List.set_cons_succ])))
            go_ret
            exact ⟨by rw [E.out]; rfl, HB6.out⟩
          · have NC := Lib.hid (fun w => show (binOp .neq 25 (.agg (ints [i1, i2, t, ck, a, b, cn, p, q]).toArray) (.agg (ints [0, 0, 0, 0, 0, 0, 0, 0, 0]).toArray)).run Tryd.prog w = .ok (.bool false) w from by have := NCC.out w; rw [hsc] at this; exact this)
            obtain ⟨e1, e2, e3, e4, e5, e6, e7, e8, e9⟩ := (SC.out.1 hsc)
            subst e1 e2 e3 e4 e5 e6 e7 e8 e9
            clear hsc SC
            have NI := Lib.hid (fun w => show (binOp .neq 23 (.agg (ints [0, 0]).toArray) (.agg (ints [0, 0]).toArray)).run Tryd.prog w = .ok (.bool false) w from by have := NIC.out w; rwa [sameB_refl] at this)
            have E := Lib.hid (JY.out ⟨Or.inr rfl, Or.inl rfl, Or.inl rfl, rfl, rfl, rfl, Or.inr ⟨rfl, rfl, rfl, rfl, rfl, rfl⟩⟩)
            have c1 : W6.cell? ⟨w.heap.size, 1, none⟩ = some (.int .i64 0) := HA6.out.cell 1
            have c2 : W6.cell? ⟨w.heap.size, 2, none⟩ = some (.int .i64 i) := HA6.out.cell 2
            have c3 : W6.cell? ⟨w.heap.size, 3, none⟩ = some (.int .i64 n) := HA6.out.cell 3
            have c6 : W6.cell? ⟨w.heap.size, 6, none⟩ = some (.int .i64 0) := HA6.out.cell 6
            have rc : W6.rangeAt w.heap.size 4 (ints [0, 0, 0, 0, 0, 0, 0, 0, 0]) := HA6.out.range 4 _ rfl
            have ri : W6.rangeAt w.heap.size 4 (ints [0, 0]) := HA6.out.range 4 _ rfl
            have TC : RowT 25 (ints [0, 0, 0, 0, 0, 0, 0, 0, 0]).length := rowC
            have TI : RowT 23 (ints [0, 0]).length := rowI
            go_wp2_with (first
              | ((with_reducible refine ld_row rc TC ?_ ?_ ?_); (· rfl); (· rfl); (simp only [Act.put, List.setIfInBounds_toArray, List.set_cons_zero, List.set_cons_succ]))
              | ((with_reducible refine ld_row ri TI ?_ ?_ ?_); (· rfl); (· rfl); (simp only [Act.put, List.setIfInBounds_toArray, List.set_cons_zero, List.set_cons_succ]))
              | ((with_reducible refine cmp_row gC NC.out ?_ ?_ ?_ ?_); (· first | rfl | (show _ = Value.agg (ints [0, 0, 0, 0, 0, 0, 0, 0, 0]).toArray; rfl)); (· first | rfl | (show _ = Value.agg (ints [0, 0, 0, 0, 0, 0, 0, 0, 0]).toArray; rfl)); (· rfl); (simp only [Act.put, List.setIfInBounds_toArray, List.set_cons_zero, List.set_cons_succ]))
              | ((with_reducible refine cmp_row gI NI.out ?_ ?_ ?_ ?_); (· first | rfl | (show _ = Value.agg (ints [0, 0]).toArray; rfl)); (· first | rfl | (show _ = Value.agg (ints [0, 0]).toArray; rfl)); (· rfl); (simp only [Act.put, List.setIfInBounds_toArray, List.set_cons_zero, List.set_cons_succ])))
            go_ret
            exact ⟨by rw [E.out]; rfl, HB6.out⟩
        · have E := Lib.hid (JN.out (fun hj => by obtain ⟨j0, j1, j2, j3, j4, j5, j6⟩ := hj; exact hz0 (j0.resolve_left (by decide))))
          have c1 : W6.cell? ⟨w.heap.size, 1, none⟩ = some (.int .i64 r) := HA6.out.cell 1
          have c2 : W6.cell? ⟨w.heap.size, 2, none⟩ = some (.int .i64 i) := HA6.out.cell 2
          have c3 : W6.cell? ⟨w.heap.size, 3, none⟩ = some (.int .i64 n) := HA6.out.cell 3
          have c6 : W6.cell? ⟨w.heap.size, 6, none⟩ = some (.int .i64 t) := HA6.out.cell 6
          have rc : W6.rangeAt w.heap.size 4 (ints [i1, i2, t, ck, a, b, cn, p, q]) := HA6.out.range 4 _ rfl
          have ri : W6.rangeAt w.heap.size 4 (ints [i1, i2]) := HA6.out.range 4 _ rfl
          have TC : RowT 25 (ints [i1, i2, t, ck, a, b, cn, p, q]).length := rowC
          have TI : RowT 23 (ints [i1, i2]).length := rowI
          go_wp2_with (first
            | ((with_reducible refine ld_row rc TC ?_ ?_ ?_); (· rfl); (· rfl); (simp only [Act.put, List.setIfInBounds_toArray, List.set_cons_zero, List.set_cons_succ]))
            | ((with_reducible refine ld_row ri TI ?_ ?_ ?_); (· rfl); (· rfl); (simp only [Act.put, List.setIfInBounds_toArray, List.set_cons_zero, List.set_cons_succ])))
          go_ret
          exact ⟨by rw [E.out]; rfl, HB6.out⟩
      · subst hF
        obtain ⟨rfl, rfl, rfl, rfl⟩ : b0 = true ∧ b1 = false ∧ b2 = false ∧ b3 = true := ⟨HBS.out.1.symm, HBS.out.2.1.symm, HBS.out.2.2.1.symm, HBS.out.2.2.2.symm⟩
        clear HBS F7
        by_cases hz1 : i = 0
        · subst hz1
          by_cases hz2 : n = 0
          · subst hz2
            rcases hsi : sameB (ints [i1, i2]) (ints [0, 0]) with _ | _
            · have NI := Lib.hid (fun w => show (binOp .neq 23 (.agg (ints [i1, i2]).toArray) (.agg (ints [0, 0]).toArray)).run Tryd.prog w = .ok (.bool true) w from by have := NIC.out w; rw [hsi] at this; exact this)
              have SIN : ¬ (i1 = 0 ∧ i2 = 0) := fun h => by have := SI.out.2 h; rw [hsi] at this; cases this
              have E := Lib.hid (JN.out (fun hj => by obtain ⟨j0, j1, j2, j3, j4, j5, j6⟩ := hj; exact SIN ⟨j3, j4⟩))
              have c1 : W6.cell? ⟨w.heap.size, 1, none⟩ = some (.int .i64 r) := HA6.out.cell 1
              have c2 : W6.cell? ⟨w.heap.size, 2, none⟩ = some (.int .i64 0) := HA6.out.cell 2
              have c3 : W6.cell? ⟨w.heap.size, 3, none⟩ = some (.int .i64 0) := HA6.out.cell 3
              have c6 : W6.cell? ⟨w.heap.size, 6, none⟩ = some (.int .i64 t) := HA6.out.cell 6
              have rc : W6.rangeAt w.heap.size 4 (ints [i1, i2, t, ck, a, b, cn, p, q]) := HA6.out.range 4 _ rfl
              have ri : W6.rangeAt w.heap.size 4 (ints [i1, i2]) := HA6.out.range 4 _ rfl
              have TC : RowT 25 (ints [i1, i2, t, ck, a, b, cn, p, q]).length := rowC
              have TI : RowT 23 (ints [i1, i2]).length := rowI
              go_wp2_with (first
                | ((with_reducible refine ld_row rc TC ?_ ?_ ?_); (· rfl); (· rfl); (simp only [Act.put, List.setIfInBounds_toArray, List.set_cons_zero, List.set_cons_succ]))
                | ((with_reducible refine ld_row ri TI ?_ ?_ ?_); (· rfl); (· rfl); (simp only [Act.put, List.setIfInBounds_toArray, List.set_cons_zero, List.set_cons_succ]))
                | ((with_reducible refine cmp_row gI NI.out ?_ ?_ ?_ ?_); (· first | rfl | (show _ = Value.agg (ints [i1, i2]).toArray; rfl)); (· first | rfl | (show _ = Value.agg (ints [0, 0]).toArray; rfl)); (· rfl); (simp only [Act.put, List.setIfInBounds_toArray, List.set_cons_zero, List.set_cons_succ])))
              go_ret
              exact ⟨by rw [E.out]; rfl, HB6.out⟩
            · have NI := Lib.hid (fun w => show (binOp .neq 23 (.agg (ints [i1, i2]).toArray) (.agg (ints [0, 0]).toArray)).run Tryd.prog w = .ok (.bool false) w from by have := NIC.out w; rw [hsi] at this; exact this)
              obtain ⟨e1, e2⟩ := (SI.out.1 hsi)
              subst e1 e2
              clear hsi SI SC NCC
              by_cases hzt : t = 0
              · subst hzt
                have E := Lib.hid (JY.out ⟨Or.inl rfl, Or.inr rfl, Or.inr rfl, rfl, rfl, rfl, Or.inl rfl⟩)
                have c1 : W6.cell? ⟨w.heap.size, 1, none⟩ = some (.int .i64 r) := HA6.out.cell 1
                have c2 : W6.cell? ⟨w.heap.size, 2, none⟩ = some (.int .i64 0) := HA6.out.cell 2
                have c3 : W6.cell? ⟨w.heap.size, 3, none⟩ = some (.int .i64 0) := HA6.out.cell 3
                have c6 : W6.cell? ⟨w.heap.size, 6, none⟩ = some (.int .i64 0) := HA6.out.cell 6
                have rc : W6.rangeAt w.heap.size 4 (ints [0, 0, 0, ck, a, b, cn, p, q]) := HA6.out.range 4 _ rfl
                have ri : W6.rangeAt w.heap.size 4 (ints [0, 0]) := HA6.out.range 4 _ rfl
                have TC : RowT 25 (ints [0, 0, 0, ck, a, b, cn, p, q]).length := rowC
                have TI : RowT 23 (ints [0, 0]).length := rowI
                go_wp2_with (first
                  | ((with_reducible refine ld_row rc TC ?_ ?_ ?_); (· rfl); (· rfl); (simp only [Act.put, List.setIfInBounds_toArray, List.set_cons_zero, List.set_cons_succ]))
                  | ((with_reducible refine ld_row ri TI ?_ ?_ ?_); (· rfl); (· rfl); (simp only [Act.put, List.setIfInBounds_toArray, List.set_cons_zero, List.set_cons_succ]))
                  | ((with_reducible refine cmp_row gI NI.out ?_ ?_ ?_ ?_); (· first | rfl | (show _ = Value.agg (ints [0, 0]).toArray; rfl)); (· first | rfl | (show _ = Value.agg (ints [0, 0]).toArray; rfl)); (· rfl); (simp only [Act.put, List.setIfInBounds_toArray, List.set_cons_zero, List.set_cons_succ])))
                go_ret
                exact ⟨by rw [E.out]; rfl, HB6.out⟩
              · have E := Lib.hid (JN.out (fun hj => by obtain ⟨j0, j1, j2, j3, j4, j5, j6⟩ := hj; exact hzt j5))
                have c1 : W6.cell? ⟨w.heap.size, 1, none⟩ = some (.int .i64 r) := HA6.out.cell 1
                have c2 : W6.cell? ⟨w.heap.size, 2, none⟩ = some (.int .i64 0) := HA6.out.cell 2
                have c3 : W6.cell? ⟨w.heap.size, 3, none⟩ = some (.int .i64 0) := HA6.out.cell 3
                have c6 : W6.cell? ⟨w.heap.size, 6, none⟩ = some (.int .i64 t) := HA6.out.cell 6
                have rc : W6.rangeAt w.heap.size 4 (ints [0, 0, t, ck, a, b, cn, p, q]) := HA6.out.range 4 _ rfl
                have ri : W6.rangeAt w.heap.size 4 (ints [0, 0]) := HA6.out.range 4 _ rfl
                have TC : RowT 25 (ints [0, 0, t, ck, a, b, cn, p, q]).length := rowC
                have TI : RowT 23 (ints [0, 0]).length := rowI
                go_wp2_with (first
                  | ((with_reducible refine ld_row rc TC ?_ ?_ ?_); (· rfl); (· rfl); (simp only [Act.put, List.setIfInBounds_toArray, List.set_cons_zero, List.set_cons_succ]))
                  | ((with_reducible refine ld_row ri TI ?_ ?_ ?_); (· rfl); (· rfl); (simp only [Act.put, List.setIfInBounds_toArray, List.set_cons_zero, List.set_cons_succ]))
                  | ((with_reducible refine cmp_row gI NI.out ?_ ?_ ?_ ?_); (· first | rfl | (show _ = Value.agg (ints [0, 0]).toArray; rfl)); (· first | rfl | (show _ = Value.agg (ints [0, 0]).toArray; rfl)); (· rfl); (simp only [Act.put, List.setIfInBounds_toArray, List.set_cons_zero, List.set_cons_succ])))
                go_ret
                exact ⟨by rw [E.out]; rfl, HB6.out⟩
          · have E := Lib.hid (JN.out (fun hj => by obtain ⟨j0, j1, j2, j3, j4, j5, j6⟩ := hj; exact hz2 (j2.resolve_left (by decide))))
            have c1 : W6.cell? ⟨w.heap.size, 1, none⟩ = some (.int .i64 r) := HA6.out.cell 1
            have c2 : W6.cell? ⟨w.heap.size, 2, none⟩ = some (.int .i64 0) := HA6.out.cell 2
            have c3 : W6.cell? ⟨w.heap.size, 3, none⟩ = some (.int .i64 n) := HA6.out.cell 3
            have c6 : W6.cell? ⟨w.heap.size, 6, none⟩ = some (.int .i64 t) := HA6.out.cell 6
            have rc : W6.rangeAt w.heap.size 4 (ints [i1, i2, t, ck, a, b, cn, p, q]) := HA6.out.range 4 _ rfl
            have ri : W6.rangeAt w.heap.size 4 (ints [i1, i2]) := HA6.out.range 4 _ rfl
            have TC : RowT 25 (ints [i1, i2, t, ck, a, b, cn, p, q]).length := rowC
            have TI : RowT 23 (ints [i1, i2]).length := rowI
            go_wp2_with (first
              | ((with_reducible refine ld_row rc TC ?_ ?_ ?_); (· rfl); (· rfl); (simp only [Act.put, List.setIfInBounds_toArray, List.set_cons_zero, List.set_cons_succ]))
              | ((with_reducible refine ld_row ri TI ?_ ?_ ?_); (· rfl); (· rfl); (simp only [Act.put, List.setIfInBounds_toArray, List.set_cons_zero, List.set_cons_succ])))
            go_ret
            exact ⟨by rw [E.out]; rfl, HB6.out⟩
        · have E := Lib.hid (JN.out (fun hj => by obtain ⟨j0, j1, j2, j3, j4, j5, j6⟩ := hj; exact hz1 (j1.resolve_left (by decide))))
          have c1 : W6.cell? ⟨w.heap.size, 1, none⟩ = some (.int .i64 r) := HA6.out.cell 1
          have c2 : W6.cell? ⟨w.heap.size, 2, none⟩ = some (.int .i64 i) := HA6.out.cell 2
          have c3 : W6.cell? ⟨w.heap.size, 3, none⟩ = some (.int .i64 n) := HA6.out.cell 3
          have c6 : W6.cell? ⟨w.heap.size, 6, none⟩ = some (.int .i64 t) := HA6.out.cell 6
          have rc : W6.rangeAt w.heap.size 4 (ints [i1, i2, t, ck, a, b, cn, p, q]) := HA6.out.range 4 _ rfl
          have ri : W6.rangeAt w.heap.size 4 (ints [i1, i2]) := HA6.out.range 4 _ rfl
          have TC : RowT 25 (ints [i1, i2, t, ck, a, b, cn, p, q]).length := rowC
          have TI : RowT 23 (ints [i1, i2]).length := rowI
          go_wp2_with (first
            | ((with_reducible refine ld_row rc TC ?_ ?_ ?_); (· rfl); (· rfl); (simp only [Act.put, List.setIfInBounds_toArray, List.set_cons_zero, List.set_cons_succ]))
            | ((with_reducible refine ld_row ri TI ?_ ?_ ?_); (· rfl); (· rfl); (simp only [Act.put, List.setIfInBounds_toArray, List.set_cons_zero, List.set_cons_succ])))
          go_ret
          exact ⟨by rw [E.out]; rfl, HB6.out⟩
end Go.Proofs.YteijahcbfncebaaDoor
