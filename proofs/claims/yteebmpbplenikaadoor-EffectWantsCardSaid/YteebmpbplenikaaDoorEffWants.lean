/- EffWants: several texts in one. -/
import Derived.Test.YteebmpbplenikaaDoorWntM
import Derived.Deep.DeepCutAuto
import Derived.Maps.AppendAt
import Derived.Test.YteebmpbplenikaaDoorRow
import Derived.Test.YteebmpbplenikaaDoorOps
import Derived.RegionTactic
import Derived.BigRegion
import Derived.ChangeAlike
import Derived.Test.YteebmpbplenikaaDoorEffPuts
import Derived.Test.YteebmpbplenikaaDoorHeld
import Derived.Test.YteebmpbplenikaaDoorRows
namespace Go.Proofs.YteebmpbplenikaaDoor
set_option linter.unusedVariables false
set_option linter.unusedSimpArgs false
open Go.ChangeShapes Go.WideShapes Go.ChangeAt Go.RowKit
theorem pick_le {p : Int → Bool} (L : List Int) : ∀ {i n : Nat}, i ≤ n → pickN p L i ≤ pickN p L n := by
  intro i n h
  induction h with
  | refl => exact Nat.le_refl _
  | step _ ih => exact Nat.le_trans ih (by rw [pickN]; omega)
theorem blk_grown {w w' : World} {g t : Nat} {cs : List Value} {row : Option Nat} (h : Blk w g cs t) (hg : w.grownBy w' row) (hne : ∀ q, row = some q → q ≠ g) : Blk w' g cs t :=
  (hg.block g h.lt (fun e => hne g e.symm rfl)).trans h
set_option maxRecDepth 100000 in
set_option maxHeartbeats 8000000 in
theorem rwant_yes (a : Option Addr) (n c : Nat) (L : List Int) (w : World) (hs : Sl w a n 5 (ints L)) (hn : n * 40 ≤ 140737488355328) :
    Calls Tryd.prog 17 #[.agg #[.int .i64 0, .slice a n c], .bool true] w fun e w' => ∃ v, e = .returned v ∧ w'.ownsRow w.heap.size 25 5 v (pickN isNow L n + pickN isLat L n) (ints (pickR isNow L n ++ pickR isLat L n)) ∧ Below w.heap.size w w' := by
  obtain ⟨i0, hi, hzz0, hzz1, hzz2⟩ := info_parts eff_info
  have hl : Hid (L.length = n * 5) := Lib.hid (by have := hs.1; rwa [ints_len] at this)
  have HB0 := Lib.hid ((Below.refl w.heap.size w).alloc (Nat.le_refl _) (.cells #[.int .i64 0, .slice a n c] 42))
  have HG00 := Lib.hid (Blk.new w #[.int .i64 0, .slice a n c] 42)
  have HS := Lib.hid (fun w' (hb : Below w.heap.size w w') => hs.keep hb)
  have HN := Lib.hid hn
  clear hs hn
  obtain ⟨FR, hFR⟩ : ∃ FR : Nat → List Int, FR = fun ps => if ps = 0 then [] else if ps = 1 then pickR isNow L n else (pickR isNow L n ++ pickR isLat L n) := ⟨_, rfl⟩
  obtain ⟨FN, hFN⟩ : ∃ FN : Nat → Nat, FN = fun ps => if ps = 0 then 0 else if ps = 1 then pickN isNow L n else (pickN isNow L n + pickN isLat L n) := ⟨_, rfl⟩
  have r0 : FR 0 = [] := by rw [hFR]; rfl
  have n0 : FN 0 = 0 := by rw [hFN]; rfl
  have r1 : FR 1 = pickR isNow L n := by rw [hFR]; rfl
  have n1 : FN 1 = pickN isNow L n := by rw [hFN]; rfl
  have r2 : FR 2 = (pickR isNow L n ++ pickR isLat L n) := by rw [hFR]; rfl
  have n2 : FN 2 = (pickN isNow L n + pickN isLat L n) := by rw [hFN]; rfl
  rw [← r2, ← n2]
  have E := Lib.hid (And.intro r0 (And.intro n0 (And.intro r1 (And.intro n1 (And.intro r2 n2)))))
  clear r0 n0 r1 n1 r2 n2 hFR hFN
  go_enter Tryd.func17, Tryd.ntmps17
  go_upto_region 3 with fail
  generalize w.alloc (.cells #[.int .i64 0, .slice a n c] 42) = W at *
  go_loopg [5, 6] 2 (fun qq s5 s6 wr => ∃ ps : Nat, qq + ps = 2 ∧ s6 = .int .i64 ps ∧ Hid (wr.ownsRow (w.heap.size + 1) 25 5 s5 (FN ps) (ints (FR ps))) ∧ Hid (Blk wr w.heap.size [.int .i64 0, .slice a n c] 42) ∧ Hid (Below w.heap.size w wr))
  case atStart => exact ⟨0, rfl, rfl, Lib.hid (by rw [E.out.1, E.out.2.1]; exact World.ownsRow_nil _ _ _ _), HG00, HB0⟩
  case round =>
    clear HG00 HB0
    obtain ⟨ps, hqp, rfl, HR, HG, HB⟩ := hrel
    generalize wr = wA at *
    obtain ⟨G, hG⟩ : ∃ G, G = gk := ⟨_, rfl⟩
    rw [← hG] at hqp
    have HG0 := Lib.hid hqp
    have cc := HG.out.cell 0
    rcases ps with _ | _ | ps
    · rw [E.out.1, E.out.2.1] at HR
      clear hqp
      generalize FR = FR at *
      have HE1 := Lib.hid (And.intro E.out.2.2.1 E.out.2.2.2.1)
      go_upto_region 5 with fail
      clear cc
      go_upto_region 6 with fail
      go_loopg [5, 7] n (fun qq s5 s7 wr => ∃ i : Nat, qq + i = n ∧ s7 = .int .i64 i ∧ Hid (wr.ownsRow (w.heap.size + 1) 25 5 s5 (pickN isNow L i) (ints (pickR isNow L i))) ∧ Hid (Blk wr w.heap.size [.int .i64 0, .slice a n c] 42) ∧ Hid (Below w.heap.size w wr))
      case atStart => exact ⟨0, by omega, rfl, HR, HG, HB⟩
      case round =>
        clear HR HG HB
        obtain ⟨i, hqi, rfl, HR, HG, HB⟩ := hrel
        generalize wr = w5 at *
        by_cases hin0 : i < n
        · have hz0 : (0 : Int) ≤ i := by omega
          have hz1 : (i : Int) < n := by omega
          obtain ⟨bb, oo, ha, hblt, rx0⟩ := rAt_at (HS.out w5 HB.out) hin0
          have hnb : (n : Int) ≤ 3518437208883 := by have := HN.out; omega
          have HQ := Lib.hid (And.intro hqi (And.intro HN.out hin0))
          have HP := Lib.hid (pick_sum L i)
          have HPN := Lib.hid (And.intro (pick_sum L n) (And.intro (pick_le (p := isLat) L (Nat.le_of_lt hin0)) (And.intro (pick_le (p := isLat) L (show i + 1 ≤ n from hin0)) (pick_le (p := isNow) L (show i + 1 ≤ n from hin0)))))
          have hxl : (rAt 5 L i).length = 5 := rAt_len hl.out hin0
          have LX : Hid ((ints (rAt 5 L i)).length = 5) := Lib.hid (by rw [ints_len]; exact hxl)
          have LX1 : Hid ((ints (rAt 5 L i)).length = 1 * 5) := Lib.hid (by rw [ints_len]; exact hxl)
          have K0 : Hid ((ints (rAt 5 L i))[0]? = some (.int .i64 ((rAt 5 L i).getD 0 0))) := Lib.hid (ints_get _ _ (by rw [hxl]; decide))
          obtain ⟨x, hx⟩ : ∃ x, x = rAt 5 L i := ⟨_, rfl⟩
          have HX := Lib.hid hx
          rw [← hx] at rx0 LX LX1 K0
          obtain ⟨ky, hky⟩ : ∃ ky, ky = x.getD 0 0 := ⟨_, rfl⟩
          rw [← hky] at K0
          have HKY := Lib.hid hky
          have TX : RowT 25 (ints x).length := by rw [LX.out]; exact eff_row
          have OX : Hid (∀ u ∈ ints x, u.oneCell' = true) := Lib.hid fun u hu => ints_one hu
          have A0 := Lib.hid (Blk.new w5 (ints x).toArray 25)
          have HB1 := Lib.hid (HB.out.alloc HB.out.size (.cells (ints x).toArray 25))
          have HR1 := Lib.hid (own_stay HR.out ((Below.refl _ _).alloc (Nat.le_refl _) (.cells (ints x).toArray 25)))
          have HG1 := Lib.hid (HG.out.alloc (.cells (ints x).toArray 25))
          rw [List.toList_toArray] at A0
          subst ha
          have ca := HG.out.cell 1
          clear hqi hin0 hx hxl HB HR HG hky HN
          by_cases hk1 : (1 : Int) ≤ ky
          · by_cases hk6 : ky ≤ 6
            · have hk7 : ¬ (7 : Int) ≤ ky := by omega
              have hk11 : ky ≤ 11 := by omega
              have HNW : Hid (isNow ((rAt 5 L i).getD 0 0) = true) := Lib.hid (by rw [← HX.out, ← HKY.out]; first | exact decide_eq_true (by omega) | exact decide_eq_false (by omega))
              have HLT : Hid (isLat ((rAt 5 L i).getD 0 0) = false) := Lib.hid (by rw [← HX.out, ← HKY.out]; first | exact decide_eq_true (by omega) | exact decide_eq_false (by omega))
              go_upto_region 8 with (first
                | ((with_reducible refine ld_row rx0 TX ?_ ?_ ?_); (· rfl); (· rfl); (simp only [Act.put, List.setIfInBounds_toArray, List.set_cons_zero, List.set_cons_succ]))
                | ((with_reducible refine st_row_new (cs := ints x) TX OX.out ?_ ?_ ?_ ?_); (· first | rfl | simp); (· rfl); (· exact LX.out.symm); (simp only [Act.put, List.setIfInBounds_toArray, List.set_cons_zero, List.set_cons_succ])))
              go_upto_region 9 with (first
                | ((with_reducible refine ld_row rx0 TX ?_ ?_ ?_); (· rfl); (· rfl); (simp only [Act.put, List.setIfInBounds_toArray, List.set_cons_zero, List.set_cons_succ]))
                | ((with_reducible refine st_row_new (cs := ints x) TX OX.out ?_ ?_ ?_ ?_); (· first | rfl | simp); (· rfl); (· exact LX.out.symm); (simp only [Act.put, List.setIfInBounds_toArray, List.set_cons_zero, List.set_cons_succ])))
              clear rx0 ca
              generalize hgx : w5.heap.size = gx at *
              generalize w5.alloc (.cells (ints x).toArray 25) = w1 at *
              clear hgx
              have ca := A0.out.cell 0
              rw [K0.out] at ca
              have rx := A0.out.range 0 (ints x) (by simp)
              go_upto_region 12 with fail
              clear ca
              have NEWS : Hid (∀ (j : Nat) (u : Value), (ints x)[j]? = some u → (w1.alloc (.cells (ints x).toArray 25)).cell? ((⟨w1.heap.size, 0, none⟩ : Addr).add j) = some u) := Lib.hid (fun j u hj => by
                rw [add_plain, Nat.zero_add, cell_of_row _ _ j _ _ _ (heap_alloc_new _ _)]
                simpa using hj)
              have HB3 := Lib.hid (HB1.out.alloc HB1.out.size (.cells (ints x).toArray 25))
              have HR3 := Lib.hid (own_stay HR1.out ((Below.refl _ _).alloc (Nat.le_refl _) (.cells (ints x).toArray 25)))
              have HG3 := Lib.hid (HG1.out.alloc (.cells (ints x).toArray 25))
              clear HB1 HR1 HG1
              go_upto_region 7 with (first
                | ((with_reducible refine ld_row rx TX ?_ ?_ ?_); (· rfl); (· rfl); (simp only [Act.put, List.setIfInBounds_toArray, List.set_cons_zero, List.set_cons_succ]))
                | ((with_reducible refine bs_oneG Tryd.underlying40 eff_whole (by decide) (by decide) ?_ LX ?_); (· rfl); (simp only [Act.put, List.setIfInBounds_toArray, List.set_cons_zero, List.set_cons_succ]))
                | (at_builtin; refine wpList_append_own_at _ rfl _ _ 40 rfl (w.heap.size + 1) 25 i0 (.agg #[.int .i64 0, .int .i64 0, .int .i64 0, .int .i64 0, .int .i64 0]) 5 40 Tryd.underlying40 hi hzz0 hzz1 hzz2 rfl (by decide) _ (pickN isNow L i) _ rfl HR3.out ⟨w1.heap.size, 0, none⟩ 1 1 (ints x) rfl LX1.out NEWS.out (fun u hu => ints_one hu) ?c1 ?c2 (by have := HG3.out.lt; omega) ?_))
              case c1 => simp only [maxLen]; have := HQ.out; have := HP.out; have := HPN.out; have := (pick_yes HNW.out).2; omega
              case c2 => have := HQ.out; have := HP.out; have := HPN.out; have := (pick_yes HNW.out).2; omega
              intro v6 w6 ho6 hg6 _ hv6
              have HB6 := Lib.hid (Below.grown HB3.out hg6 HB3.out.size fun q hq => Nat.le_of_succ_le (HR3.out.lt q hq).1)
              have HG6 := Lib.hid (blk_grown HG3.out hg6 fun q hq => by have := (HR3.out.lt q hq).1; omega)
              have HR6 : Hid (w6.ownsRow (w.heap.size + 1) 25 5 v6 (pickN isNow L (i + 1)) (ints (pickR isNow L (i + 1)))) := Lib.hid (by
                rw [(pick_yes HNW.out).1, (pick_yes HNW.out).2, ← HX.out, ints_appG]
                exact ho6)
              clear ho6 hg6 hv6 HR3 HB3 NEWS rx HG3
              go_wp2_with fail
              go_roundg (gk - 1)
              case measure => have := HQ.out; omega
              case rel => exact ⟨i + 1, by have := HQ.out; omega, by go_num, HR6, HG6, HB6⟩
            · have hk7 : (7 : Int) ≤ ky := by omega
              by_cases hk11 : ky ≤ 11
              · skip
                have HNW : Hid (isNow ((rAt 5 L i).getD 0 0) = false) := Lib.hid (by rw [← HX.out, ← HKY.out]; first | exact decide_eq_true (by omega) | exact decide_eq_false (by omega))
                have HLT : Hid (isLat ((rAt 5 L i).getD 0 0) = true) := Lib.hid (by rw [← HX.out, ← HKY.out]; first | exact decide_eq_true (by omega) | exact decide_eq_false (by omega))
                go_upto_region 8 with (first
                  | ((with_reducible refine ld_row rx0 TX ?_ ?_ ?_); (· rfl); (· rfl); (simp only [Act.put, List.setIfInBounds_toArray, List.set_cons_zero, List.set_cons_succ]))
                  | ((with_reducible refine st_row_new (cs := ints x) TX OX.out ?_ ?_ ?_ ?_); (· first | rfl | simp); (· rfl); (· exact LX.out.symm); (simp only [Act.put, List.setIfInBounds_toArray, List.set_cons_zero, List.set_cons_succ])))
                go_upto_region 9 with (first
                  | ((with_reducible refine ld_row rx0 TX ?_ ?_ ?_); (· rfl); (· rfl); (simp only [Act.put, List.setIfInBounds_toArray, List.set_cons_zero, List.set_cons_succ]))
                  | ((with_reducible refine st_row_new (cs := ints x) TX OX.out ?_ ?_ ?_ ?_); (· first | rfl | simp); (· rfl); (· exact LX.out.symm); (simp only [Act.put, List.setIfInBounds_toArray, List.set_cons_zero, List.set_cons_succ])))
                clear rx0 ca
                generalize hgx : w5.heap.size = gx at *
                generalize w5.alloc (.cells (ints x).toArray 25) = w1 at *
                clear hgx
                have ca := A0.out.cell 0
                rw [K0.out] at ca
                have rx := A0.out.range 0 (ints x) (by simp)
                go_wp2_with fail
                go_roundg (gk - 1)
                case measure => have := HQ.out; omega
                case rel => exact ⟨i + 1, by have := HQ.out; omega, by go_num, by rw [(pick_no HNW.out).1, (pick_no HNW.out).2]; exact HR1, HG1, HB1⟩
              · skip
                have HNW : Hid (isNow ((rAt 5 L i).getD 0 0) = false) := Lib.hid (by rw [← HX.out, ← HKY.out]; first | exact decide_eq_true (by omega) | exact decide_eq_false (by omega))
                have HLT : Hid (isLat ((rAt 5 L i).getD 0 0) = false) := Lib.hid (by rw [← HX.out, ← HKY.out]; first | exact decide_eq_true (by omega) | exact decide_eq_false (by omega))
                go_upto_region 8 with (first
                  | ((with_reducible refine ld_row rx0 TX ?_ ?_ ?_); (· rfl); (· rfl); (simp only [Act.put, List.setIfInBounds_toArray, List.set_cons_zero, List.set_cons_succ]))
                  | ((with_reducible refine st_row_new (cs := ints x) TX OX.out ?_ ?_ ?_ ?_); (· first | rfl | simp); (· rfl); (· exact LX.out.symm); (simp only [Act.put, List.setIfInBounds_toArray, List.set_cons_zero, List.set_cons_succ])))
                go_upto_region 9 with (first
                  | ((with_reducible refine ld_row rx0 TX ?_ ?_ ?_); (· rfl); (· rfl); (simp only [Act.put, List.setIfInBounds_toArray, List.set_cons_zero, List.set_cons_succ]))
                  | ((with_reducible refine st_row_new (cs := ints x) TX OX.out ?_ ?_ ?_ ?_); (· first | rfl | simp); (· rfl); (· exact LX.out.symm); (simp only [Act.put, List.setIfInBounds_toArray, List.set_cons_zero, List.set_cons_succ])))
                clear rx0 ca
                generalize hgx : w5.heap.size = gx at *
                generalize w5.alloc (.cells (ints x).toArray 25) = w1 at *
                clear hgx
                have ca := A0.out.cell 0
                rw [K0.out] at ca
                have rx := A0.out.range 0 (ints x) (by simp)
                go_wp2_with fail
                go_roundg (gk - 1)
                case measure => have := HQ.out; omega
                case rel => exact ⟨i + 1, by have := HQ.out; omega, by go_num, by rw [(pick_no HNW.out).1, (pick_no HNW.out).2]; exact HR1, HG1, HB1⟩
          · have hk7 : ¬ (7 : Int) ≤ ky := by omega
            have hk6 : ky ≤ 6 := by omega
            have hk11 : ky ≤ 11 := by omega
            have HNW : Hid (isNow ((rAt 5 L i).getD 0 0) = false) := Lib.hid (by rw [← HX.out, ← HKY.out]; first | exact decide_eq_true (by omega) | exact decide_eq_false (by omega))
            have HLT : Hid (isLat ((rAt 5 L i).getD 0 0) = false) := Lib.hid (by rw [← HX.out, ← HKY.out]; first | exact decide_eq_true (by omega) | exact decide_eq_false (by omega))
            go_upto_region 8 with (first
              | ((with_reducible refine ld_row rx0 TX ?_ ?_ ?_); (· rfl); (· rfl); (simp only [Act.put, List.setIfInBounds_toArray, List.set_cons_zero, List.set_cons_succ]))
              | ((with_reducible refine st_row_new (cs := ints x) TX OX.out ?_ ?_ ?_ ?_); (· first | rfl | simp); (· rfl); (· exact LX.out.symm); (simp only [Act.put, List.setIfInBounds_toArray, List.set_cons_zero, List.set_cons_succ])))
            go_upto_region 9 with (first
              | ((with_reducible refine ld_row rx0 TX ?_ ?_ ?_); (· rfl); (· rfl); (simp only [Act.put, List.setIfInBounds_toArray, List.set_cons_zero, List.set_cons_succ]))
              | ((with_reducible refine st_row_new (cs := ints x) TX OX.out ?_ ?_ ?_ ?_); (· first | rfl | simp); (· rfl); (· exact LX.out.symm); (simp only [Act.put, List.setIfInBounds_toArray, List.set_cons_zero, List.set_cons_succ])))
            clear rx0 ca
            generalize hgx : w5.heap.size = gx at *
            generalize w5.alloc (.cells (ints x).toArray 25) = w1 at *
            clear hgx
            have ca := A0.out.cell 0
            rw [K0.out] at ca
            have rx := A0.out.range 0 (ints x) (by simp)
            go_wp2_with fail
            go_roundg (gk - 1)
            case measure => have := HQ.out; omega
            case rel => exact ⟨i + 1, by have := HQ.out; omega, by go_num, by rw [(pick_no HNW.out).1, (pick_no HNW.out).2]; exact HR1, HG1, HB1⟩
        · have hik : i = n := by omega
          rw [hik] at HR
          have hin1 : ¬ (i : Int) < n := by omega
          have ca := HG.out.cell 1
          clear hqi hin0 hik
          go_wp2_with fail
          go_roundg (G - 1)
          case measure => have := HG0.out; omega
          case rel => exact ⟨1, by have := HG0.out; omega, rfl, by rw [HE1.out.1, HE1.out.2]; exact HR, HG, HB⟩
    · rw [show 0 + 1 = 1 from rfl, E.out.2.2.1, E.out.2.2.2.1] at HR
      clear hqp
      have HE1 := Lib.hid (And.intro E.out.2.2.2.2.1 E.out.2.2.2.2.2)
      go_upto_region 5 with fail
      clear cc
      go_upto_region 6 with fail
      go_loopg [5, 7] n (fun qq s5 s7 wr => ∃ i : Nat, qq + i = n ∧ s7 = .int .i64 i ∧ Hid (wr.ownsRow (w.heap.size + 1) 25 5 s5 (pickN isNow L n + pickN isLat L i) (ints (pickR isNow L n ++ pickR isLat L i))) ∧ Hid (Blk wr w.heap.size [.int .i64 0, .slice a n c] 42) ∧ Hid (Below w.heap.size w wr))
      case atStart => exact ⟨0, by omega, rfl, by rw [show pickR isLat L 0 = [] from rfl, show pickN isLat L 0 = 0 from rfl, List.append_nil, Nat.add_zero]; exact HR, HG, HB⟩
      case round =>
        clear HR HG HB
        obtain ⟨i, hqi, rfl, HR, HG, HB⟩ := hrel
        generalize wr = w5 at *
        by_cases hin0 : i < n
        · have hz0 : (0 : Int) ≤ i := by omega
          have hz1 : (i : Int) < n := by omega
          obtain ⟨bb, oo, ha, hblt, rx0⟩ := rAt_at (HS.out w5 HB.out) hin0
          have hnb : (n : Int) ≤ 3518437208883 := by have := HN.out; omega
          have HQ := Lib.hid (And.intro hqi (And.intro HN.out hin0))
          have HP := Lib.hid (pick_sum L i)
          have HPN := Lib.hid (And.intro (pick_sum L n) (And.intro (pick_le (p := isLat) L (Nat.le_of_lt hin0)) (And.intro (pick_le (p := isLat) L (show i + 1 ≤ n from hin0)) (pick_le (p := isNow) L (show i + 1 ≤ n from hin0)))))
          have hxl : (rAt 5 L i).length = 5 := rAt_len hl.out hin0
          have LX : Hid ((ints (rAt 5 L i)).length = 5) := Lib.hid (by rw [ints_len]; exact hxl)
          have LX1 : Hid ((ints (rAt 5 L i)).length = 1 * 5) := Lib.hid (by rw [ints_len]; exact hxl)
          have K0 : Hid ((ints (rAt 5 L i))[0]? = some (.int .i64 ((rAt 5 L i).getD 0 0))) := Lib.hid (ints_get _ _ (by rw [hxl]; decide))
          obtain ⟨x, hx⟩ : ∃ x, x = rAt 5 L i := ⟨_, rfl⟩
          have HX := Lib.hid hx
          rw [← hx] at rx0 LX LX1 K0
          obtain ⟨ky, hky⟩ : ∃ ky, ky = x.getD 0 0 := ⟨_, rfl⟩
          rw [← hky] at K0
          have HKY := Lib.hid hky
          have TX : RowT 25 (ints x).length := by rw [LX.out]; exact eff_row
          have OX : Hid (∀ u ∈ ints x, u.oneCell' = true) := Lib.hid fun u hu => ints_one hu
          have A0 := Lib.hid (Blk.new w5 (ints x).toArray 25)
          have HB1 := Lib.hid (HB.out.alloc HB.out.size (.cells (ints x).toArray 25))
          have HR1 := Lib.hid (own_stay HR.out ((Below.refl _ _).alloc (Nat.le_refl _) (.cells (ints x).toArray 25)))
          have HG1 := Lib.hid (HG.out.alloc (.cells (ints x).toArray 25))
          rw [List.toList_toArray] at A0
          subst ha
          have ca := HG.out.cell 1
          clear hqi hin0 hx hxl HB HR HG hky HN
          by_cases hk1 : (1 : Int) ≤ ky
          · by_cases hk6 : ky ≤ 6
            · have hk7 : ¬ (7 : Int) ≤ ky := by omega
              have hk11 : ky ≤ 11 := by omega
              have HNW : Hid (isNow ((rAt 5 L i).getD 0 0) = true) := Lib.hid (by rw [← HX.out, ← HKY.out]; first | exact decide_eq_true (by omega) | exact decide_eq_false (by omega))
              have HLT : Hid (isLat ((rAt 5 L i).getD 0 0) = false) := Lib.hid (by rw [← HX.out, ← HKY.out]; first | exact decide_eq_true (by omega) | exact decide_eq_false (by omega))
              go_upto_region 8 with (first
                | ((with_reducible refine ld_row rx0 TX ?_ ?_ ?_); (· rfl); (· rfl); (simp only [Act.put, List.setIfInBounds_toArray, List.set_cons_zero, List.set_cons_succ]))
                | ((with_reducible refine st_row_new (cs := ints x) TX OX.out ?_ ?_ ?_ ?_); (· first | rfl | simp); (· rfl); (· exact LX.out.symm); (simp only [Act.put, List.setIfInBounds_toArray, List.set_cons_zero, List.set_cons_succ])))
              go_upto_region 9 with (first
                | ((with_reducible refine ld_row rx0 TX ?_ ?_ ?_); (· rfl); (· rfl); (simp only [Act.put, List.setIfInBounds_toArray, List.set_cons_zero, List.set_cons_succ]))
                | ((with_reducible refine st_row_new (cs := ints x) TX OX.out ?_ ?_ ?_ ?_); (· first | rfl | simp); (· rfl); (· exact LX.out.symm); (simp only [Act.put, List.setIfInBounds_toArray, List.set_cons_zero, List.set_cons_succ])))
              clear rx0 ca
              generalize hgx : w5.heap.size = gx at *
              generalize w5.alloc (.cells (ints x).toArray 25) = w1 at *
              clear hgx
              have ca := A0.out.cell 0
              rw [K0.out] at ca
              have rx := A0.out.range 0 (ints x) (by simp)
              go_wp2_with fail
              go_roundg (gk - 1)
              case measure => have := HQ.out; omega
              case rel => exact ⟨i + 1, by have := HQ.out; omega, by go_num, by rw [(pick_no HLT.out).1, (pick_no HLT.out).2]; exact HR1, HG1, HB1⟩
            · have hk7 : (7 : Int) ≤ ky := by omega
              by_cases hk11 : ky ≤ 11
              · skip
                have HNW : Hid (isNow ((rAt 5 L i).getD 0 0) = false) := Lib.hid (by rw [← HX.out, ← HKY.out]; first | exact decide_eq_true (by omega) | exact decide_eq_false (by omega))
                have HLT : Hid (isLat ((rAt 5 L i).getD 0 0) = true) := Lib.hid (by rw [← HX.out, ← HKY.out]; first | exact decide_eq_true (by omega) | exact decide_eq_false (by omega))
                go_upto_region 8 with (first
                  | ((with_reducible refine ld_row rx0 TX ?_ ?_ ?_); (· rfl); (· rfl); (simp only [Act.put, List.setIfInBounds_toArray, List.set_cons_zero, List.set_cons_succ]))
                  | ((with_reducible refine st_row_new (cs := ints x) TX OX.out ?_ ?_ ?_ ?_); (· first | rfl | simp); (· rfl); (· exact LX.out.symm); (simp only [Act.put, List.setIfInBounds_toArray, List.set_cons_zero, List.set_cons_succ])))
                go_upto_region 9 with (first
                  | ((with_reducible refine ld_row rx0 TX ?_ ?_ ?_); (· rfl); (· rfl); (simp only [Act.put, List.setIfInBounds_toArray, List.set_cons_zero, List.set_cons_succ]))
                  | ((with_reducible refine st_row_new (cs := ints x) TX OX.out ?_ ?_ ?_ ?_); (· first | rfl | simp); (· rfl); (· exact LX.out.symm); (simp only [Act.put, List.setIfInBounds_toArray, List.set_cons_zero, List.set_cons_succ])))
                clear rx0 ca
                generalize hgx : w5.heap.size = gx at *
                generalize w5.alloc (.cells (ints x).toArray 25) = w1 at *
                clear hgx
                have ca := A0.out.cell 0
                rw [K0.out] at ca
                have rx := A0.out.range 0 (ints x) (by simp)
                go_upto_region 12 with fail
                clear ca
                have NEWS : Hid (∀ (j : Nat) (u : Value), (ints x)[j]? = some u → (w1.alloc (.cells (ints x).toArray 25)).cell? ((⟨w1.heap.size, 0, none⟩ : Addr).add j) = some u) := Lib.hid (fun j u hj => by
                  rw [add_plain, Nat.zero_add, cell_of_row _ _ j _ _ _ (heap_alloc_new _ _)]
                  simpa using hj)
                have HB3 := Lib.hid (HB1.out.alloc HB1.out.size (.cells (ints x).toArray 25))
                have HR3 := Lib.hid (own_stay HR1.out ((Below.refl _ _).alloc (Nat.le_refl _) (.cells (ints x).toArray 25)))
                have HG3 := Lib.hid (HG1.out.alloc (.cells (ints x).toArray 25))
                clear HB1 HR1 HG1
                go_upto_region 7 with (first
                  | ((with_reducible refine ld_row rx TX ?_ ?_ ?_); (· rfl); (· rfl); (simp only [Act.put, List.setIfInBounds_toArray, List.set_cons_zero, List.set_cons_succ]))
                  | ((with_reducible refine bs_oneG Tryd.underlying40 eff_whole (by decide) (by decide) ?_ LX ?_); (· rfl); (simp only [Act.put, List.setIfInBounds_toArray, List.set_cons_zero, List.set_cons_succ]))
                  | (at_builtin; refine wpList_append_own_at _ rfl _ _ 40 rfl (w.heap.size + 1) 25 i0 (.agg #[.int .i64 0, .int .i64 0, .int .i64 0, .int .i64 0, .int .i64 0]) 5 40 Tryd.underlying40 hi hzz0 hzz1 hzz2 rfl (by decide) _ (pickN isNow L n + pickN isLat L i) _ rfl HR3.out ⟨w1.heap.size, 0, none⟩ 1 1 (ints x) rfl LX1.out NEWS.out (fun u hu => ints_one hu) ?c1 ?c2 (by have := HG3.out.lt; omega) ?_))
                case c1 => simp only [maxLen]; have := HQ.out; have := HP.out; have := HPN.out; have := (pick_yes HLT.out).2; omega
                case c2 => have := HQ.out; have := HP.out; have := HPN.out; have := (pick_yes HLT.out).2; omega
                intro v6 w6 ho6 hg6 _ hv6
                have HB6 := Lib.hid (Below.grown HB3.out hg6 HB3.out.size fun q hq => Nat.le_of_succ_le (HR3.out.lt q hq).1)
                have HG6 := Lib.hid (blk_grown HG3.out hg6 fun q hq => by have := (HR3.out.lt q hq).1; omega)
                have HR6 : Hid (w6.ownsRow (w.heap.size + 1) 25 5 v6 (pickN isNow L n + pickN isLat L (i + 1)) (ints (pickR isNow L n ++ pickR isLat L (i + 1)))) := Lib.hid (by
                  rw [(pick_yes HLT.out).1, (pick_yes HLT.out).2, ← List.append_assoc, ← HX.out, ints_appG]
                  exact ho6)
                clear ho6 hg6 hv6 HR3 HB3 NEWS rx HG3
                go_wp2_with fail
                go_roundg (gk - 1)
                case measure => have := HQ.out; omega
                case rel => exact ⟨i + 1, by have := HQ.out; omega, by go_num, HR6, HG6, HB6⟩
              · skip
                have HNW : Hid (isNow ((rAt 5 L i).getD 0 0) = false) := Lib.hid (by rw [← HX.out, ← HKY.out]; first | exact decide_eq_true (by omega) | exact decide_eq_false (by omega))
                have HLT : Hid (isLat ((rAt 5 L i).getD 0 0) = false) := Lib.hid (by rw [← HX.out, ← HKY.out]; first | exact decide_eq_true (by omega) | exact decide_eq_false (by omega))
                go_upto_region 8 with (first
                  | ((with_reducible refine ld_row rx0 TX ?_ ?_ ?_); (· rfl); (· rfl); (simp only [Act.put, List.setIfInBounds_toArray, List.set_cons_zero, List.set_cons_succ]))
                  | ((with_reducible refine st_row_new (cs := ints x) TX OX.out ?_ ?_ ?_ ?_); (· first | rfl | simp); (· rfl); (· exact LX.out.symm); (simp only [Act.put, List.setIfInBounds_toArray, List.set_cons_zero, List.set_cons_succ])))
                go_upto_region 9 with (first
                  | ((with_reducible refine ld_row rx0 TX ?_ ?_ ?_); (· rfl); (· rfl); (simp only [Act.put, List.setIfInBounds_toArray, List.set_cons_zero, List.set_cons_succ]))
                  | ((with_reducible refine st_row_new (cs := ints x) TX OX.out ?_ ?_ ?_ ?_); (· first | rfl | simp); (· rfl); (· exact LX.out.symm); (simp only [Act.put, List.setIfInBounds_toArray, List.set_cons_zero, List.set_cons_succ])))
                clear rx0 ca
                generalize hgx : w5.heap.size = gx at *
                generalize w5.alloc (.cells (ints x).toArray 25) = w1 at *
                clear hgx
                have ca := A0.out.cell 0
                rw [K0.out] at ca
                have rx := A0.out.range 0 (ints x) (by simp)
                go_wp2_with fail
                go_roundg (gk - 1)
                case measure => have := HQ.out; omega
                case rel => exact ⟨i + 1, by have := HQ.out; omega, by go_num, by rw [(pick_no HLT.out).1, (pick_no HLT.out).2]; exact HR1, HG1, HB1⟩
          · have hk7 : ¬ (7 : Int) ≤ ky := by omega
            have hk6 : ky ≤ 6 := by omega
            have hk11 : ky ≤ 11 := by omega
            have HNW : Hid (isNow ((rAt 5 L i).getD 0 0) = false) := Lib.hid (by rw [← HX.out, ← HKY.out]; first | exact decide_eq_true (by omega) | exact decide_eq_false (by omega))
            have HLT : Hid (isLat ((rAt 5 L i).getD 0 0) = false) := Lib.hid (by rw [← HX.out, ← HKY.out]; first | exact decide_eq_true (by omega) | exact decide_eq_false (by omega))
            go_upto_region 8 with (first
              | ((with_reducible refine ld_row rx0 TX ?_ ?_ ?_); (· rfl); (· rfl); (simp only [Act.put, List.setIfInBounds_toArray, List.set_cons_zero, List.set_cons_succ]))
              | ((with_reducible refine st_row_new (cs := ints x) TX OX.out ?_ ?_ ?_ ?_); (· first | rfl | simp); (· rfl); (· exact LX.out.symm); (simp only [Act.put, List.setIfInBounds_toArray, List.set_cons_zero, List.set_cons_succ])))
            go_upto_region 9 with (first
              | ((with_reducible refine ld_row rx0 TX ?_ ?_ ?_); (· rfl); (· rfl); (simp only [Act.put, List.setIfInBounds_toArray, List.set_cons_zero, List.set_cons_succ]))
              | ((with_reducible refine st_row_new (cs := ints x) TX OX.out ?_ ?_ ?_ ?_); (· first | rfl | simp); (· rfl); (· exact LX.out.symm); (simp only [Act.put, List.setIfInBounds_toArray, List.set_cons_zero, List.set_cons_succ])))
            clear rx0 ca
            generalize hgx : w5.heap.size = gx at *
            generalize w5.alloc (.cells (ints x).toArray 25) = w1 at *
            clear hgx
            have ca := A0.out.cell 0
            rw [K0.out] at ca
            have rx := A0.out.range 0 (ints x) (by simp)
            go_wp2_with fail
            go_roundg (gk - 1)
            case measure => have := HQ.out; omega
            case rel => exact ⟨i + 1, by have := HQ.out; omega, by go_num, by rw [(pick_no HLT.out).1, (pick_no HLT.out).2]; exact HR1, HG1, HB1⟩
        · have hik : i = n := by omega
          rw [hik] at HR
          have hin1 : ¬ (i : Int) < n := by omega
          have ca := HG.out.cell 1
          clear hqi hin0 hik
          go_wp2_with fail
          go_roundg (G - 1)
          case measure => have := HG0.out; omega
          case rel => exact ⟨2, by have := HG0.out; omega, rfl, by rw [HE1.out.1, HE1.out.2]; exact HR, HG, HB⟩
    · have hp : ps = 0 := by omega
      subst hp
      clear hqp
      go_wp2_with fail
      go_ret
      exact ⟨_, rfl, own_base HR.out (Nat.le_succ _), HB.out⟩
set_option maxRecDepth 100000 in
set_option maxHeartbeats 8000000 in
theorem rwant_no (a : Option Addr) (n c : Nat) (L : List Int) (w : World) (hs : Sl w a n 5 (ints L)) (hn : n * 40 ≤ 140737488355328) :
    Calls Tryd.prog 17 #[.agg #[.int .i64 0, .slice a n c], .bool false] w fun e w' => ∃ v, e = .returned v ∧ w'.ownsRow w.heap.size 25 5 v (pickN isNow L n) (ints (pickR isNow L n)) ∧ Below w.heap.size w w' := by
  obtain ⟨i0, hi, hzz0, hzz1, hzz2⟩ := info_parts eff_info
  have hl : Hid (L.length = n * 5) := Lib.hid (by have := hs.1; rwa [ints_len] at this)
  have HB0 := Lib.hid ((Below.refl w.heap.size w).alloc (Nat.le_refl _) (.cells #[.int .i64 0, .slice a n c] 42))
  have HG00 := Lib.hid (Blk.new w #[.int .i64 0, .slice a n c] 42)
  have HS := Lib.hid (fun w' (hb : Below w.heap.size w w') => hs.keep hb)
  have HN := Lib.hid hn
  clear hs hn
  obtain ⟨FR, hFR⟩ : ∃ FR : Nat → List Int, FR = fun ps => if ps = 0 then [] else if ps = 1 then pickR isNow L n else (pickR isNow L n) := ⟨_, rfl⟩
  obtain ⟨FN, hFN⟩ : ∃ FN : Nat → Nat, FN = fun ps => if ps = 0 then 0 else if ps = 1 then pickN isNow L n else (pickN isNow L n) := ⟨_, rfl⟩
  have r0 : FR 0 = [] := by rw [hFR]; rfl
  have n0 : FN 0 = 0 := by rw [hFN]; rfl
  have r1 : FR 1 = pickR isNow L n := by rw [hFR]; rfl
  have n1 : FN 1 = pickN isNow L n := by rw [hFN]; rfl
  have r2 : FR 2 = (pickR isNow L n) := by rw [hFR]; rfl
  have n2 : FN 2 = (pickN isNow L n) := by rw [hFN]; rfl
  rw [← r2, ← n2]
  have E := Lib.hid (And.intro r0 (And.intro n0 (And.intro r1 (And.intro n1 (And.intro r2 n2)))))
  clear r0 n0 r1 n1 r2 n2 hFR hFN
  go_enter Tryd.func17, Tryd.ntmps17
  go_upto_region 3 with fail
  generalize w.alloc (.cells #[.int .i64 0, .slice a n c] 42) = W at *
  go_loopg [5, 6] 2 (fun qq s5 s6 wr => ∃ ps : Nat, qq + ps = 2 ∧ s6 = .int .i64 ps ∧ Hid (wr.ownsRow (w.heap.size + 1) 25 5 s5 (FN ps) (ints (FR ps))) ∧ Hid (Blk wr w.heap.size [.int .i64 0, .slice a n c] 42) ∧ Hid (Below w.heap.size w wr))
  case atStart => exact ⟨0, rfl, rfl, Lib.hid (by rw [E.out.1, E.out.2.1]; exact World.ownsRow_nil _ _ _ _), HG00, HB0⟩
  case round =>
    clear HG00 HB0
    obtain ⟨ps, hqp, rfl, HR, HG, HB⟩ := hrel
    generalize wr = wA at *
    obtain ⟨G, hG⟩ : ∃ G, G = gk := ⟨_, rfl⟩
    rw [← hG] at hqp
    have HG0 := Lib.hid hqp
    have cc := HG.out.cell 0
    rcases ps with _ | _ | ps
    · rw [E.out.1, E.out.2.1] at HR
      clear hqp
      generalize FR = FR at *
      have HE1 := Lib.hid (And.intro E.out.2.2.1 E.out.2.2.2.1)
      go_upto_region 5 with fail
      clear cc
      go_upto_region 6 with fail
      go_loopg [5, 7] n (fun qq s5 s7 wr => ∃ i : Nat, qq + i = n ∧ s7 = .int .i64 i ∧ Hid (wr.ownsRow (w.heap.size + 1) 25 5 s5 (pickN isNow L i) (ints (pickR isNow L i))) ∧ Hid (Blk wr w.heap.size [.int .i64 0, .slice a n c] 42) ∧ Hid (Below w.heap.size w wr))
      case atStart => exact ⟨0, by omega, rfl, HR, HG, HB⟩
      case round =>
        clear HR HG HB
        obtain ⟨i, hqi, rfl, HR, HG, HB⟩ := hrel
        generalize wr = w5 at *
        by_cases hin0 : i < n
        · have hz0 : (0 : Int) ≤ i := by omega
          have hz1 : (i : Int) < n := by omega
          obtain ⟨bb, oo, ha, hblt, rx0⟩ := rAt_at (HS.out w5 HB.out) hin0
          have hnb : (n : Int) ≤ 3518437208883 := by have := HN.out; omega
          have HQ := Lib.hid (And.intro hqi (And.intro HN.out hin0))
          have HP := Lib.hid (pick_sum L i)
          have HPN := Lib.hid (And.intro (pick_sum L n) (And.intro (pick_le (p := isLat) L (Nat.le_of_lt hin0)) (And.intro (pick_le (p := isLat) L (show i + 1 ≤ n from hin0)) (pick_le (p := isNow) L (show i + 1 ≤ n from hin0)))))
          have hxl : (rAt 5 L i).length = 5 := rAt_len hl.out hin0
          have LX : Hid ((ints (rAt 5 L i)).length = 5) := Lib.hid (by rw [ints_len]; exact hxl)
          have LX1 : Hid ((ints (rAt 5 L i)).length = 1 * 5) := Lib.hid (by rw [ints_len]; exact hxl)
          have K0 : Hid ((ints (rAt 5 L i))[0]? = some (.int .i64 ((rAt 5 L i).getD 0 0))) := Lib.hid (ints_get _ _ (by rw [hxl]; decide))
          obtain ⟨x, hx⟩ : ∃ x, x = rAt 5 L i := ⟨_, rfl⟩
          have HX := Lib.hid hx
          rw [← hx] at rx0 LX LX1 K0
          obtain ⟨ky, hky⟩ : ∃ ky, ky = x.getD 0 0 := ⟨_, rfl⟩
          rw [← hky] at K0
          have HKY := Lib.hid hky
          have TX : RowT 25 (ints x).length := by rw [LX.out]; exact eff_row
          have OX : Hid (∀ u ∈ ints x, u.oneCell' = true) := Lib.hid fun u hu => ints_one hu
          have A0 := Lib.hid (Blk.new w5 (ints x).toArray 25)
          have HB1 := Lib.hid (HB.out.alloc HB.out.size (.cells (ints x).toArray 25))
          have HR1 := Lib.hid (own_stay HR.out ((Below.refl _ _).alloc (Nat.le_refl _) (.cells (ints x).toArray 25)))
          have HG1 := Lib.hid (HG.out.alloc (.cells (ints x).toArray 25))
          rw [List.toList_toArray] at A0
          subst ha
          have ca := HG.out.cell 1
          clear hqi hin0 hx hxl HB HR HG hky HN
          by_cases hk1 : (1 : Int) ≤ ky
          · by_cases hk6 : ky ≤ 6
            · have hk7 : ¬ (7 : Int) ≤ ky := by omega
              have hk11 : ky ≤ 11 := by omega
              have HNW : Hid (isNow ((rAt 5 L i).getD 0 0) = true) := Lib.hid (by rw [← HX.out, ← HKY.out]; first | exact decide_eq_true (by omega) | exact decide_eq_false (by omega))
              have HLT : Hid (isLat ((rAt 5 L i).getD 0 0) = false) := Lib.hid (by rw [← HX.out, ← HKY.out]; first | exact decide_eq_true (by omega) | exact decide_eq_false (by omega))
              go_upto_region 8 with (first
                | ((with_reducible refine ld_row rx0 TX ?_ ?_ ?_); (· rfl); (· rfl); (simp only [Act.put, List.setIfInBounds_toArray, List.set_cons_zero, List.set_cons_succ]))
                | ((with_reducible refine st_row_new (cs := ints x) TX OX.out ?_ ?_ ?_ ?_); (· first | rfl | simp); (· rfl); (· exact LX.out.symm); (simp only [Act.put, List.setIfInBounds_toArray, List.set_cons_zero, List.set_cons_succ])))
              go_upto_region 9 with (first
                | ((with_reducible refine ld_row rx0 TX ?_ ?_ ?_); (· rfl); (· rfl); (simp only [Act.put, List.setIfInBounds_toArray, List.set_cons_zero, List.set_cons_succ]))
                | ((with_reducible refine st_row_new (cs := ints x) TX OX.out ?_ ?_ ?_ ?_); (· first | rfl | simp); (· rfl); (· exact LX.out.symm); (simp only [Act.put, List.setIfInBounds_toArray, List.set_cons_zero, List.set_cons_succ])))
              clear rx0 ca
              generalize hgx : w5.heap.size = gx at *
              generalize w5.alloc (.cells (ints x).toArray 25) = w1 at *
              clear hgx
              have ca := A0.out.cell 0
              rw [K0.out] at ca
              have rx := A0.out.range 0 (ints x) (by simp)
              go_upto_region 12 with fail
              clear ca
              have NEWS : Hid (∀ (j : Nat) (u : Value), (ints x)[j]? = some u → (w1.alloc (.cells (ints x).toArray 25)).cell? ((⟨w1.heap.size, 0, none⟩ : Addr).add j) = some u) := Lib.hid (fun j u hj => by
                rw [add_plain, Nat.zero_add, cell_of_row _ _ j _ _ _ (heap_alloc_new _ _)]
                simpa using hj)
              have HB3 := Lib.hid (HB1.out.alloc HB1.out.size (.cells (ints x).toArray 25))
              have HR3 := Lib.hid (own_stay HR1.out ((Below.refl _ _).alloc (Nat.le_refl _) (.cells (ints x).toArray 25)))
              have HG3 := Lib.hid (HG1.out.alloc (.cells (ints x).toArray 25))
              clear HB1 HR1 HG1
              go_upto_region 7 with (first
                | ((with_reducible refine ld_row rx TX ?_ ?_ ?_); (· rfl); (· rfl); (simp only [Act.put, List.setIfInBounds_toArray, List.set_cons_zero, List.set_cons_succ]))
                | ((with_reducible refine bs_oneG Tryd.underlying40 eff_whole (by decide) (by decide) ?_ LX ?_); (· rfl); (simp only [Act.put, List.setIfInBounds_toArray, List.set_cons_zero, List.set_cons_succ]))
                | (at_builtin; refine wpList_append_own_at _ rfl _ _ 40 rfl (w.heap.size + 1) 25 i0 (.agg #[.int .i64 0, .int .i64 0, .int .i64 0, .int .i64 0, .int .i64 0]) 5 40 Tryd.underlying40 hi hzz0 hzz1 hzz2 rfl (by decide) _ (pickN isNow L i) _ rfl HR3.out ⟨w1.heap.size, 0, none⟩ 1 1 (ints x) rfl LX1.out NEWS.out (fun u hu => ints_one hu) ?c1 ?c2 (by have := HG3.out.lt; omega) ?_))
              case c1 => simp only [maxLen]; have := HQ.out; have := HP.out; have := HPN.out; have := (pick_yes HNW.out).2; omega
              case c2 => have := HQ.out; have := HP.out; have := HPN.out; have := (pick_yes HNW.out).2; omega
              intro v6 w6 ho6 hg6 _ hv6
              have HB6 := Lib.hid (Below.grown HB3.out hg6 HB3.out.size fun q hq => Nat.le_of_succ_le (HR3.out.lt q hq).1)
              have HG6 := Lib.hid (blk_grown HG3.out hg6 fun q hq => by have := (HR3.out.lt q hq).1; omega)
              have HR6 : Hid (w6.ownsRow (w.heap.size + 1) 25 5 v6 (pickN isNow L (i + 1)) (ints (pickR isNow L (i + 1)))) := Lib.hid (by
                rw [(pick_yes HNW.out).1, (pick_yes HNW.out).2, ← HX.out, ints_appG]
                exact ho6)
              clear ho6 hg6 hv6 HR3 HB3 NEWS rx HG3
              go_wp2_with fail
              go_roundg (gk - 1)
              case measure => have := HQ.out; omega
              case rel => exact ⟨i + 1, by have := HQ.out; omega, by go_num, HR6, HG6, HB6⟩
            · have hk7 : (7 : Int) ≤ ky := by omega
              by_cases hk11 : ky ≤ 11
              · skip
                have HNW : Hid (isNow ((rAt 5 L i).getD 0 0) = false) := Lib.hid (by rw [← HX.out, ← HKY.out]; first | exact decide_eq_true (by omega) | exact decide_eq_false (by omega))
                have HLT : Hid (isLat ((rAt 5 L i).getD 0 0) = true) := Lib.hid (by rw [← HX.out, ← HKY.out]; first | exact decide_eq_true (by omega) | exact decide_eq_false (by omega))
                go_upto_region 8 with (first
                  | ((with_reducible refine ld_row rx0 TX ?_ ?_ ?_); (· rfl); (· rfl); (simp only [Act.put, List.setIfInBounds_toArray, List.set_cons_zero, List.set_cons_succ]))
                  | ((with_reducible refine st_row_new (cs := ints x) TX OX.out ?_ ?_ ?_ ?_); (· first | rfl | simp); (· rfl); (· exact LX.out.symm); (simp only [Act.put, List.setIfInBounds_toArray, List.set_cons_zero, List.set_cons_succ])))
                go_upto_region 9 with (first
                  | ((with_reducible refine ld_row rx0 TX ?_ ?_ ?_); (· rfl); (· rfl); (simp only [Act.put, List.setIfInBounds_toArray, List.set_cons_zero, List.set_cons_succ]))
                  | ((with_reducible refine st_row_new (cs := ints x) TX OX.out ?_ ?_ ?_ ?_); (· first | rfl | simp); (· rfl); (· exact LX.out.symm); (simp only [Act.put, List.setIfInBounds_toArray, List.set_cons_zero, List.set_cons_succ])))
                clear rx0 ca
                generalize hgx : w5.heap.size = gx at *
                generalize w5.alloc (.cells (ints x).toArray 25) = w1 at *
                clear hgx
                have ca := A0.out.cell 0
                rw [K0.out] at ca
                have rx := A0.out.range 0 (ints x) (by simp)
                go_wp2_with fail
                go_roundg (gk - 1)
                case measure => have := HQ.out; omega
                case rel => exact ⟨i + 1, by have := HQ.out; omega, by go_num, by rw [(pick_no HNW.out).1, (pick_no HNW.out).2]; exact HR1, HG1, HB1⟩
              · skip
                have HNW : Hid (isNow ((rAt 5 L i).getD 0 0) = false) := Lib.hid (by rw [← HX.out, ← HKY.out]; first | exact decide_eq_true (by omega) | exact decide_eq_false (by omega))
                have HLT : Hid (isLat ((rAt 5 L i).getD 0 0) = false) := Lib.hid (by rw [← HX.out, ← HKY.out]; first | exact decide_eq_true (by omega) | exact decide_eq_false (by omega))
                go_upto_region 8 with (first
                  | ((with_reducible refine ld_row rx0 TX ?_ ?_ ?_); (· rfl); (· rfl); (simp only [Act.put, List.setIfInBounds_toArray, List.set_cons_zero, List.set_cons_succ]))
                  | ((with_reducible refine st_row_new (cs := ints x) TX OX.out ?_ ?_ ?_ ?_); (· first | rfl | simp); (· rfl); (· exact LX.out.symm); (simp only [Act.put, List.setIfInBounds_toArray, List.set_cons_zero, List.set_cons_succ])))
                go_upto_region 9 with (first
                  | ((with_reducible refine ld_row rx0 TX ?_ ?_ ?_); (· rfl); (· rfl); (simp only [Act.put, List.setIfInBounds_toArray, List.set_cons_zero, List.set_cons_succ]))
                  | ((with_reducible refine st_row_new (cs := ints x) TX OX.out ?_ ?_ ?_ ?_); (· first | rfl | simp); (· rfl); (· exact LX.out.symm); (simp only [Act.put, List.setIfInBounds_toArray, List.set_cons_zero, List.set_cons_succ])))
                clear rx0 ca
                generalize hgx : w5.heap.size = gx at *
                generalize w5.alloc (.cells (ints x).toArray 25) = w1 at *
                clear hgx
                have ca := A0.out.cell 0
                rw [K0.out] at ca
                have rx := A0.out.range 0 (ints x) (by simp)
                go_wp2_with fail
                go_roundg (gk - 1)
                case measure => have := HQ.out; omega
                case rel => exact ⟨i + 1, by have := HQ.out; omega, by go_num, by rw [(pick_no HNW.out).1, (pick_no HNW.out).2]; exact HR1, HG1, HB1⟩
          · have hk7 : ¬ (7 : Int) ≤ ky := by omega
            have hk6 : ky ≤ 6 := by omega
            have hk11 : ky ≤ 11 := by omega
            have HNW : Hid (isNow ((rAt 5 L i).getD 0 0) = false) := Lib.hid (by rw [← HX.out, ← HKY.out]; first | exact decide_eq_true (by omega) | exact decide_eq_false (by omega))
            have HLT : Hid (isLat ((rAt 5 L i).getD 0 0) = false) := Lib.hid (by rw [← HX.out, ← HKY.out]; first | exact decide_eq_true (by omega) | exact decide_eq_false (by omega))
            go_upto_region 8 with (first
              | ((with_reducible refine ld_row rx0 TX ?_ ?_ ?_); (· rfl); (· rfl); (simp only [Act.put, List.setIfInBounds_toArray, List.set_cons_zero, List.set_cons_succ]))
              | ((with_reducible refine st_row_new (cs := ints x) TX OX.out ?_ ?_ ?_ ?_); (· first | rfl | simp); (· rfl); (· exact LX.out.symm); (simp only [Act.put, List.setIfInBounds_toArray, List.set_cons_zero, List.set_cons_succ])))
            go_upto_region 9 with (first
              | ((with_reducible refine ld_row rx0 TX ?_ ?_ ?_); (· rfl); (· rfl); (simp only [Act.put, List.setIfInBounds_toArray, List.set_cons_zero, List.set_cons_succ]))
              | ((with_reducible refine st_row_new (cs := ints x) TX OX.out ?_ ?_ ?_ ?_); (· first | rfl | simp); (· rfl); (· exact LX.out.symm); (simp only [Act.put, List.setIfInBounds_toArray, List.set_cons_zero, List.set_cons_succ])))
            clear rx0 ca
            generalize hgx : w5.heap.size = gx at *
            generalize w5.alloc (.cells (ints x).toArray 25) = w1 at *
            clear hgx
            have ca := A0.out.cell 0
            rw [K0.out] at ca
            have rx := A0.out.range 0 (ints x) (by simp)
            go_wp2_with fail
            go_roundg (gk - 1)
            case measure => have := HQ.out; omega
            case rel => exact ⟨i + 1, by have := HQ.out; omega, by go_num, by rw [(pick_no HNW.out).1, (pick_no HNW.out).2]; exact HR1, HG1, HB1⟩
        · have hik : i = n := by omega
          rw [hik] at HR
          have hin1 : ¬ (i : Int) < n := by omega
          have ca := HG.out.cell 1
          clear hqi hin0 hik
          go_wp2_with fail
          go_roundg (G - 1)
          case measure => have := HG0.out; omega
          case rel => exact ⟨1, by have := HG0.out; omega, rfl, by rw [HE1.out.1, HE1.out.2]; exact HR, HG, HB⟩
    · rw [show 0 + 1 = 1 from rfl, E.out.2.2.1, E.out.2.2.2.1] at HR
      clear hqp
      have HE1 := Lib.hid (And.intro E.out.2.2.2.2.1 E.out.2.2.2.2.2)
      go_upto_region 5 with fail
      clear cc
      go_upto_region 6 with fail
      go_loopg [5, 7] n (fun qq s5 s7 wr => ∃ i : Nat, qq + i = n ∧ s7 = .int .i64 i ∧ Hid (wr.ownsRow (w.heap.size + 1) 25 5 s5 (pickN isNow L n) (ints (pickR isNow L n))) ∧ Hid (Blk wr w.heap.size [.int .i64 0, .slice a n c] 42) ∧ Hid (Below w.heap.size w wr))
      case atStart => exact ⟨0, by omega, rfl, HR, HG, HB⟩
      case round =>
        clear HR HG HB
        obtain ⟨i, hqi, rfl, HR, HG, HB⟩ := hrel
        generalize wr = w5 at *
        by_cases hin0 : i < n
        · have hz0 : (0 : Int) ≤ i := by omega
          have hz1 : (i : Int) < n := by omega
          obtain ⟨bb, oo, ha, hblt, rx0⟩ := rAt_at (HS.out w5 HB.out) hin0
          have hnb : (n : Int) ≤ 3518437208883 := by have := HN.out; omega
          have HQ := Lib.hid (And.intro hqi (And.intro HN.out hin0))
          have HP := Lib.hid (pick_sum L i)
          have HPN := Lib.hid (And.intro (pick_sum L n) (And.intro (pick_le (p := isLat) L (Nat.le_of_lt hin0)) (And.intro (pick_le (p := isLat) L (show i + 1 ≤ n from hin0)) (pick_le (p := isNow) L (show i + 1 ≤ n from hin0)))))
          have hxl : (rAt 5 L i).length = 5 := rAt_len hl.out hin0
          have LX : Hid ((ints (rAt 5 L i)).length = 5) := Lib.hid (by rw [ints_len]; exact hxl)
          have LX1 : Hid ((ints (rAt 5 L i)).length = 1 * 5) := Lib.hid (by rw [ints_len]; exact hxl)
          have K0 : Hid ((ints (rAt 5 L i))[0]? = some (.int .i64 ((rAt 5 L i).getD 0 0))) := Lib.hid (ints_get _ _ (by rw [hxl]; decide))
          obtain ⟨x, hx⟩ : ∃ x, x = rAt 5 L i := ⟨_, rfl⟩
          have HX := Lib.hid hx
          rw [← hx] at rx0 LX LX1 K0
          obtain ⟨ky, hky⟩ : ∃ ky, ky = x.getD 0 0 := ⟨_, rfl⟩
          rw [← hky] at K0
          have HKY := Lib.hid hky
          have TX : RowT 25 (ints x).length := by rw [LX.out]; exact eff_row
          have OX : Hid (∀ u ∈ ints x, u.oneCell' = true) := Lib.hid fun u hu => ints_one hu
          have A0 := Lib.hid (Blk.new w5 (ints x).toArray 25)
          have HB1 := Lib.hid (HB.out.alloc HB.out.size (.cells (ints x).toArray 25))
          have HR1 := Lib.hid (own_stay HR.out ((Below.refl _ _).alloc (Nat.le_refl _) (.cells (ints x).toArray 25)))
          have HG1 := Lib.hid (HG.out.alloc (.cells (ints x).toArray 25))
          rw [List.toList_toArray] at A0
          subst ha
          have ca := HG.out.cell 1
          clear hqi hin0 hx hxl HB HR HG hky HN
          by_cases hk1 : (1 : Int) ≤ ky
          · by_cases hk6 : ky ≤ 6
            · have hk7 : ¬ (7 : Int) ≤ ky := by omega
              have hk11 : ky ≤ 11 := by omega
              have HNW : Hid (isNow ((rAt 5 L i).getD 0 0) = true) := Lib.hid (by rw [← HX.out, ← HKY.out]; first | exact decide_eq_true (by omega) | exact decide_eq_false (by omega))
              have HLT : Hid (isLat ((rAt 5 L i).getD 0 0) = false) := Lib.hid (by rw [← HX.out, ← HKY.out]; first | exact decide_eq_true (by omega) | exact decide_eq_false (by omega))
              go_upto_region 8 with (first
                | ((with_reducible refine ld_row rx0 TX ?_ ?_ ?_); (· rfl); (· rfl); (simp only [Act.put, List.setIfInBounds_toArray, List.set_cons_zero, List.set_cons_succ]))
                | ((with_reducible refine st_row_new (cs := ints x) TX OX.out ?_ ?_ ?_ ?_); (· first | rfl | simp); (· rfl); (· exact LX.out.symm); (simp only [Act.put, List.setIfInBounds_toArray, List.set_cons_zero, List.set_cons_succ])))
              go_upto_region 9 with (first
                | ((with_reducible refine ld_row rx0 TX ?_ ?_ ?_); (· rfl); (· rfl); (simp only [Act.put, List.setIfInBounds_toArray, List.set_cons_zero, List.set_cons_succ]))
                | ((with_reducible refine st_row_new (cs := ints x) TX OX.out ?_ ?_ ?_ ?_); (· first | rfl | simp); (· rfl); (· exact LX.out.symm); (simp only [Act.put, List.setIfInBounds_toArray, List.set_cons_zero, List.set_cons_succ])))
              clear rx0 ca
              generalize hgx : w5.heap.size = gx at *
              generalize w5.alloc (.cells (ints x).toArray 25) = w1 at *
              clear hgx
              have ca := A0.out.cell 0
              rw [K0.out] at ca
              have rx := A0.out.range 0 (ints x) (by simp)
              go_wp2_with fail
              go_roundg (gk - 1)
              case measure => have := HQ.out; omega
              case rel => exact ⟨i + 1, by have := HQ.out; omega, by go_num, by exact HR1, HG1, HB1⟩
            · have hk7 : (7 : Int) ≤ ky := by omega
              by_cases hk11 : ky ≤ 11
              · skip
                have HNW : Hid (isNow ((rAt 5 L i).getD 0 0) = false) := Lib.hid (by rw [← HX.out, ← HKY.out]; first | exact decide_eq_true (by omega) | exact decide_eq_false (by omega))
                have HLT : Hid (isLat ((rAt 5 L i).getD 0 0) = true) := Lib.hid (by rw [← HX.out, ← HKY.out]; first | exact decide_eq_true (by omega) | exact decide_eq_false (by omega))
                go_upto_region 8 with (first
                  | ((with_reducible refine ld_row rx0 TX ?_ ?_ ?_); (· rfl); (· rfl); (simp only [Act.put, List.setIfInBounds_toArray, List.set_cons_zero, List.set_cons_succ]))
                  | ((with_reducible refine st_row_new (cs := ints x) TX OX.out ?_ ?_ ?_ ?_); (· first | rfl | simp); (· rfl); (· exact LX.out.symm); (simp only [Act.put, List.setIfInBounds_toArray, List.set_cons_zero, List.set_cons_succ])))
                go_upto_region 9 with (first
                  | ((with_reducible refine ld_row rx0 TX ?_ ?_ ?_); (· rfl); (· rfl); (simp only [Act.put, List.setIfInBounds_toArray, List.set_cons_zero, List.set_cons_succ]))
                  | ((with_reducible refine st_row_new (cs := ints x) TX OX.out ?_ ?_ ?_ ?_); (· first | rfl | simp); (· rfl); (· exact LX.out.symm); (simp only [Act.put, List.setIfInBounds_toArray, List.set_cons_zero, List.set_cons_succ])))
                clear rx0 ca
                generalize hgx : w5.heap.size = gx at *
                generalize w5.alloc (.cells (ints x).toArray 25) = w1 at *
                clear hgx
                have ca := A0.out.cell 0
                rw [K0.out] at ca
                have rx := A0.out.range 0 (ints x) (by simp)
                go_wp2_with fail
                go_roundg (gk - 1)
                case measure => have := HQ.out; omega
                case rel => exact ⟨i + 1, by have := HQ.out; omega, by go_num, by exact HR1, HG1, HB1⟩
              · skip
                have HNW : Hid (isNow ((rAt 5 L i).getD 0 0) = false) := Lib.hid (by rw [← HX.out, ← HKY.out]; first | exact decide_eq_true (by omega) | exact decide_eq_false (by omega))
                have HLT : Hid (isLat ((rAt 5 L i).getD 0 0) = false) := Lib.hid (by rw [← HX.out, ← HKY.out]; first | exact decide_eq_true (by omega) | exact decide_eq_false (by omega))
                go_upto_region 8 with (first
                  | ((with_reducible refine ld_row rx0 TX ?_ ?_ ?_); (· rfl); (· rfl); (simp only [Act.put, List.setIfInBounds_toArray, List.set_cons_zero, List.set_cons_succ]))
                  | ((with_reducible refine st_row_new (cs := ints x) TX OX.out ?_ ?_ ?_ ?_); (· first | rfl | simp); (· rfl); (· exact LX.out.symm); (simp only [Act.put, List.setIfInBounds_toArray, List.set_cons_zero, List.set_cons_succ])))
                go_upto_region 9 with (first
                  | ((with_reducible refine ld_row rx0 TX ?_ ?_ ?_); (· rfl); (· rfl); (simp only [Act.put, List.setIfInBounds_toArray, List.set_cons_zero, List.set_cons_succ]))
                  | ((with_reducible refine st_row_new (cs := ints x) TX OX.out ?_ ?_ ?_ ?_); (· first | rfl | simp); (· rfl); (· exact LX.out.symm); (simp only [Act.put, List.setIfInBounds_toArray, List.set_cons_zero, List.set_cons_succ])))
                clear rx0 ca
                generalize hgx : w5.heap.size = gx at *
                generalize w5.alloc (.cells (ints x).toArray 25) = w1 at *
                clear hgx
                have ca := A0.out.cell 0
                rw [K0.out] at ca
                have rx := A0.out.range 0 (ints x) (by simp)
                go_wp2_with fail
                go_roundg (gk - 1)
                case measure => have := HQ.out; omega
                case rel => exact ⟨i + 1, by have := HQ.out; omega, by go_num, by exact HR1, HG1, HB1⟩
          · have hk7 : ¬ (7 : Int) ≤ ky := by omega
            have hk6 : ky ≤ 6 := by omega
            have hk11 : ky ≤ 11 := by omega
            have HNW : Hid (isNow ((rAt 5 L i).getD 0 0) = false) := Lib.hid (by rw [← HX.out, ← HKY.out]; first | exact decide_eq_true (by omega) | exact decide_eq_false (by omega))
            have HLT : Hid (isLat ((rAt 5 L i).getD 0 0) = false) := Lib.hid (by rw [← HX.out, ← HKY.out]; first | exact decide_eq_true (by omega) | exact decide_eq_false (by omega))
            go_upto_region 8 with (first
              | ((with_reducible refine ld_row rx0 TX ?_ ?_ ?_); (· rfl); (· rfl); (simp only [Act.put, List.setIfInBounds_toArray, List.set_cons_zero, List.set_cons_succ]))
              | ((with_reducible refine st_row_new (cs := ints x) TX OX.out ?_ ?_ ?_ ?_); (· first | rfl | simp); (· rfl); (· exact LX.out.symm); (simp only [Act.put, List.setIfInBounds_toArray, List.set_cons_zero, List.set_cons_succ])))
            go_upto_region 9 with (first
              | ((with_reducible refine ld_row rx0 TX ?_ ?_ ?_); (· rfl); (· rfl); (simp only [Act.put, List.setIfInBounds_toArray, List.set_cons_zero, List.set_cons_succ]))
              | ((with_reducible refine st_row_new (cs := ints x) TX OX.out ?_ ?_ ?_ ?_); (· first | rfl | simp); (· rfl); (· exact LX.out.symm); (simp only [Act.put, List.setIfInBounds_toArray, List.set_cons_zero, List.set_cons_succ])))
            clear rx0 ca
            generalize hgx : w5.heap.size = gx at *
            generalize w5.alloc (.cells (ints x).toArray 25) = w1 at *
            clear hgx
            have ca := A0.out.cell 0
            rw [K0.out] at ca
            have rx := A0.out.range 0 (ints x) (by simp)
            go_wp2_with fail
            go_roundg (gk - 1)
            case measure => have := HQ.out; omega
            case rel => exact ⟨i + 1, by have := HQ.out; omega, by go_num, by exact HR1, HG1, HB1⟩
        · have hik : i = n := by omega
    
          have hin1 : ¬ (i : Int) < n := by omega
          have ca := HG.out.cell 1
          clear hqi hin0 hik
          go_wp2_with fail
          go_roundg (G - 1)
          case measure => have := HG0.out; omega
          case rel => exact ⟨2, by have := HG0.out; omega, rfl, by rw [HE1.out.1, HE1.out.2]; exact HR, HG, HB⟩
    · have hp : ps = 0 := by omega
      subst hp
      clear hqp
      go_wp2_with fail
      go_ret
      exact ⟨_, rfl, own_base HR.out (Nat.le_succ _), HB.out⟩
theorem rwant_code (code : Int) (good : Bool) (a : Option Addr) (n c : Nat) (w : World) (h0 : code ≠ 0) : Calls Tryd.prog 17 #[.agg #[.int .i64 code, .slice a n c], .bool good] w fun e w' => e = .returned (.slice none 0 0) ∧ Below w.heap.size w w' := by
  have HB0 := Lib.hid ((Below.refl w.heap.size w).alloc (Nat.le_refl _) (.cells #[.int .i64 code, .slice a n c] 42))
  have hcb : (code == 0) = false := by simpa using h0
  clear h0
  go_enter Tryd.func17, Tryd.ntmps17
  go_wp2_with fail
  go_loopg [5, 6] 0 (fun g s5 s6 wr => s5 = .slice none 0 0 ∧ s6 = .int .i64 0 ∧ w.alloc (.cells #[.int .i64 code, .slice a n c] 42) = wr)
  case atStart => exact ⟨rfl, rfl, rfl⟩
  case round =>
    obtain ⟨rfl, rfl, rfl⟩ := hrel
    go_wp2_with fail
    go_ret
    exact ⟨rfl, HB0.out⟩
theorem rwant_any (code : Int) (good : Bool) (a : Option Addr) (n c : Nat) (L : List Int) (w : World) (hs : Sl w a n 5 (ints L)) (hn : n * 40 ≤ 140737488355328) :
    Calls Tryd.prog 17 #[.agg #[.int .i64 code, .slice a n c], .bool good] w fun e w' => ∃ v, e = .returned v ∧ w'.ownsRow w.heap.size 25 5 v (wantN code good L n) (ints (wantR code good L n)) ∧ Below w.heap.size w w' := by
  by_cases h0 : code = 0
  · subst h0
    cases good
    · exact rwant_no a n c L w hs hn
    · exact rwant_yes a n c L w hs hn
  · refine (rwant_code code good a n c w h0).mono ?_
    rintro e w' ⟨rfl, hb⟩
    refine ⟨_, rfl, ?_, hb⟩
    rw [show wantR code good L n = [] from if_neg h0, show wantN code good L n = 0 from if_neg h0]
    exact World.ownsRow_nil _ _ _ _
theorem ints_injE {xs ys : List Int} (h : ints xs = ints ys) : xs = ys := by
  induction xs generalizing ys with
  | nil => cases ys with
    | nil => rfl
    | cons y ys => cases h
  | cons x xs ih => cases ys with
    | nil => cases h
    | cons y ys =>
      unfold ints at h ih
      simp only [List.map_cons, List.cons.injEq, Value.int.injEq, true_and] at h
      rw [h.1, ih h.2]
theorem st_skip {P : Program} {ops : Array Oper} {w : World} {R : Act → Prop} {rest : List Oper} {a : Act} {o : Oper} (hw : Region.wanted o (yielded ops a.tmps) = false) (h : wpStill P ops w R rest (a.put o.dst undef)) : wpStill P ops w R (o :: rest) a :=
  wpStill_step fun K hK => by rw [if_neg (by rw [hw]; exact Bool.false_ne_true)]; exact hK _ h
set_option maxRecDepth 100000 in
set_option maxHeartbeats 8000000 in
theorem effs_same (a a2 : Option Addr) (n c c2 : Nat) (L : List Int) (w : World) (hs : Sl w a n 5 (ints L)) (hs2 : Sl w a2 n 5 (ints L)) (hn : (n : Int) ≤ 3518437208883) (hf : ∀ z ∈ L, fits z = true) :
    Calls Tryd.prog 16 #[.slice a n c, .slice a2 n c2] w fun e w' => e = .returned (.bool true) ∧ Below w.heap.size w w' := by
  have hl : Hid (L.length = n * 5) := Lib.hid (by have := hs.1; rwa [ints_len] at this)
  have HS := Lib.hid hs
  have HS2 := Lib.hid hs2
  have HF := Lib.hid hf
  clear hs hs2 hf
  go_enter Tryd.func16, Tryd.ntmps16
  go_wp2_with fail
  go_loopg [5] n (fun q s5 wr => ∃ i : Nat, q + i = n ∧ s5 = .int .i64 i ∧ Hid (Below w.heap.size w wr))
  case atStart => exact ⟨0, rfl, rfl, Lib.hid (Below.refl _ _)⟩
  case round =>
    obtain ⟨i, hqi, rfl, hbr⟩ := hrel
    by_cases hi : i < n
    · obtain ⟨b, off, rfl, hb, hra⟩ := rAt_at HS.out hi
      obtain ⟨b', off', rfl, hb', hrb⟩ := rAt_at HS2.out hi
      have hra2 := range_keepG hra hbr.out hb
      have hrb2 := range_keepG hrb hbr.out hb'
      have L5 : Hid ((rAt 5 L i).length = 5) := Lib.hid (rAt_len hl.out hi)
      have OKX := ok_ef L5.out (fun z hz => HF.out z (rAt_mem hz))
      have NE := Lib.hid (ef_ne OKX OKX)
      rw [sameB_refl] at NE
      have TX : RowT 25 (ints (rAt 5 L i)).length := by rw [ints_len, L5.out]; exact eff_row
      clear hra hrb OKX
      have hi0 : (0 : Int) ≤ i := by omega
      have hin : (i : Int) < n := by omega
      generalize rAt 5 L i = x at *
      go_upto_region 6 with fail
      refine wp_region_still_lit (by kernel_rfl) (by kernel_rfl) ?_
      have hra' : wr.drew.rangeAt b (off + i * 5) (ints x) := hra2
      have hrb' : wr.drew.rangeAt b' (off' + i * 5) (ints x) := hrb2
      have hbr' := Lib.hid hbr.out.drew
      change wpStill _ _ (World.drew wr) (fun a' => Exit.then _ _ _ a' (World.drew wr)) _ _
      clear hra2 hrb2 hbr
      generalize wr.drew = wr at *
      repeat (first
        | ((with_reducible refine lds_rowG hra' TX ?_ ?_ ?_); (· rfl); (· rfl); (simp only [Act.put, List.setIfInBounds_toArray, List.set_cons_zero, List.set_cons_succ]))
        | ((with_reducible refine lds_rowG hrb' TX ?_ ?_ ?_); (· rfl); (· rfl); (simp only [Act.put, List.setIfInBounds_toArray, List.set_cons_zero, List.set_cons_succ]))
        | ((with_reducible refine cmps_rowG ef_guard NE.out ?_ ?_ ?_ ?_); (· rfl); (· rfl); (· rfl); (simp only [Act.put, List.setIfInBounds_toArray, List.set_cons_zero, List.set_cons_succ]))
        | ((with_reducible refine st_skip ?_ ?_); (· rfl); (simp only [Act.put, List.setIfInBounds_toArray, List.set_cons_zero, List.set_cons_succ]))
        | still_step)
      refine wpStill_nil ?_
      go_wp2_with fail
      go_roundg (gk - 1)
      case measure => omega
      case rel => exact ⟨i + 1, by omega, by go_num, hbr'⟩
    · have hin : ¬ (i : Int) < n := by omega
      go_wp2_with fail
      go_ret
      exact ⟨rfl, hbr.out⟩
set_option maxRecDepth 100000 in
set_option maxHeartbeats 8000000 in
theorem common_any (a b : Option Addr) (na ca nb cb : Nat) (A B : List Int) (w : World) (hs : Sl w a na 5 (ints A)) (hs2 : Sl w b nb 5 (ints B)) (hn : (na : Int) ≤ 3518437208883) (hfa : ∀ z ∈ A, fits z = true) (hfb : ∀ z ∈ B, fits z = true) :
    Calls Tryd.prog 15 #[.slice a na ca, .slice b nb cb] w fun e w' => ∃ k : Nat, e = .returned (.int .i64 k) ∧ (k ≤ na ∧ k ≤ nb) ∧ (∀ j, j < k → rAt 5 A j = rAt 5 B j) ∧ (k < na → k < nb → rAt 5 A k ≠ rAt 5 B k) ∧ Below w.heap.size w w' := by
  have hla : Hid (A.length = na * 5) := Lib.hid (by have := hs.1; rwa [ints_len] at this)
  have hlb : Hid (B.length = nb * 5) := Lib.hid (by have := hs2.1; rwa [ints_len] at this)
  have HS := Lib.hid hs
  have HS2 := Lib.hid hs2
  have HFA := Lib.hid hfa
  have HFB := Lib.hid hfb
  clear hs hs2 hfa hfb
  go_enter Tryd.func15, Tryd.ntmps15
  go_wp2_with fail
  go_loopg [5] na (fun q s5 wr => ∃ i : Nat, q + i = na ∧ i ≤ nb ∧ s5 = .int .i64 i ∧ Hid (∀ j, j < i → rAt 5 A j = rAt 5 B j) ∧ Hid (Below w.heap.size w wr))
  case atStart => exact ⟨0, rfl, Nat.zero_le _, rfl, Lib.hid (fun j hj => absurd hj (Nat.not_lt_zero _)), Lib.hid (Below.refl _ _)⟩
  case round =>
    obtain ⟨i, hqi, hib, rfl, HEQ, hbr⟩ := hrel
    by_cases hi : i < na
    · by_cases hi2 : i < nb
      · obtain ⟨b1, off, rfl, hb, hra⟩ := rAt_at HS.out hi
        obtain ⟨b', off', rfl, hb', hrb⟩ := rAt_at HS2.out hi2
        have hra2 := range_keepG hra hbr.out hb
        have hrb2 := range_keepG hrb hbr.out hb'
        have L5 : Hid ((rAt 5 A i).length = 5) := Lib.hid (rAt_len hla.out hi)
        have M5 : Hid ((rAt 5 B i).length = 5) := Lib.hid (rAt_len hlb.out hi2)
        have OKX := ok_ef L5.out (fun z hz => HFA.out z (rAt_mem hz))
        have OKY := ok_ef M5.out (fun z hz => HFB.out z (rAt_mem hz))
        have EQ := Lib.hid (ef_eq OKX OKY)
        have HIFF := sameB_iff OKX OKY
        have TX : RowT 25 (ints (rAt 5 A i)).length := by rw [ints_len, L5.out]; exact eff_row
        have TY : RowT 25 (ints (rAt 5 B i)).length := by rw [ints_len, M5.out]; exact eff_row
        clear hra hrb OKX OKY
        have hi0 : (0 : Int) ≤ i := by omega
        have hin : (i : Int) < na := by omega
        have hin2 : (i : Int) < nb := by omega
        rcases hsb : sameB (ints (rAt 5 A i)) (ints (rAt 5 B i)) with _ | _
        · rw [hsb] at EQ
          have HNE : Hid (∀ j, j = i → rAt 5 A j ≠ rAt 5 B j) := Lib.hid (fun j hj e => by rw [hj] at e; rw [e, sameB_refl] at hsb; cases hsb)
          clear HIFF hsb
          generalize rAt 5 A i = x at *
          generalize rAt 5 B i = y at *
          go_upto_region 2 with fail
          refine wp_region_still_lit (by kernel_rfl) (by kernel_rfl) ?_
          have hbr' := Lib.hid hbr.out.drew
          have hra' : wr.drew.rangeAt b1 (off + i * 5) (ints x) := hra2
          have hrb' : wr.drew.rangeAt b' (off' + i * 5) (ints y) := hrb2
          clear hra2 hrb2
          change wpStill _ _ (World.drew wr) (fun a' => Exit.then _ _ _ a' (World.drew wr)) _ _
          clear hbr
          generalize wr.drew = wr at *
          repeat (first
            | ((with_reducible refine lds_rowG hra' TX ?_ ?_ ?_); (· rfl); (· rfl); (simp only [Act.put, List.setIfInBounds_toArray, List.set_cons_zero, List.set_cons_succ]))
            | ((with_reducible refine lds_rowG hrb' TY ?_ ?_ ?_); (· rfl); (· rfl); (simp only [Act.put, List.setIfInBounds_toArray, List.set_cons_zero, List.set_cons_succ]))
            | ((with_reducible refine cmps_rowG ef_guard EQ.out ?_ ?_ ?_ ?_); (· rfl); (· rfl); (· rfl); (simp only [Act.put, List.setIfInBounds_toArray, List.set_cons_zero, List.set_cons_succ]))
            | ((with_reducible refine st_skip ?_ ?_); (· rfl); (simp only [Act.put, List.setIfInBounds_toArray, List.set_cons_zero, List.set_cons_succ]))
            | still_step)
          refine wpStill_nil ?_
          go_wp2_with fail
          go_ret
          exact ⟨i, rfl, ⟨by omega, hib⟩, HEQ.out, fun _ _ => HNE.out i rfl, hbr'.out⟩
        · rw [hsb] at EQ
          have HSA : Hid (rAt 5 A i = rAt 5 B i) := Lib.hid (ints_injE (HIFF.1 hsb))
          have HEQ2 : Hid (∀ j, j < i + 1 → rAt 5 A j = rAt 5 B j) := Lib.hid (fun j hj => by
            by_cases e : j = i
            · rw [e]; exact HSA.out
            · exact HEQ.out j (by omega))
          clear HIFF hsb HSA
          generalize rAt 5 A i = x at *
          generalize rAt 5 B i = y at *
          go_upto_region 2 with fail
          refine wp_region_still_lit (by kernel_rfl) (by kernel_rfl) ?_
          have hbr' := Lib.hid hbr.out.drew
          have hra' : wr.drew.rangeAt b1 (off + i * 5) (ints x) := hra2
          have hrb' : wr.drew.rangeAt b' (off' + i * 5) (ints y) := hrb2
          clear hra2 hrb2
          change wpStill _ _ (World.drew wr) (fun a' => Exit.then _ _ _ a' (World.drew wr)) _ _
          clear hbr
          generalize wr.drew = wr at *
          repeat (first
            | ((with_reducible refine lds_rowG hra' TX ?_ ?_ ?_); (· rfl); (· rfl); (simp only [Act.put, List.setIfInBounds_toArray, List.set_cons_zero, List.set_cons_succ]))
            | ((with_reducible refine lds_rowG hrb' TY ?_ ?_ ?_); (· rfl); (· rfl); (simp only [Act.put, List.setIfInBounds_toArray, List.set_cons_zero, List.set_cons_succ]))
            | ((with_reducible refine cmps_rowG ef_guard EQ.out ?_ ?_ ?_ ?_); (· rfl); (· rfl); (· rfl); (simp only [Act.put, List.setIfInBounds_toArray, List.set_cons_zero, List.set_cons_succ]))
            | ((with_reducible refine st_skip ?_ ?_); (· rfl); (simp only [Act.put, List.setIfInBounds_toArray, List.set_cons_zero, List.set_cons_succ]))
            | still_step)
          refine wpStill_nil ?_
          go_wp2_with fail
          go_roundg (gk - 1)
          case measure => omega
          case rel => exact ⟨i + 1, by omega, by omega, by go_num, HEQ2, hbr'⟩
      · have hi0 : (0 : Int) ≤ i := by omega
        have hin : (i : Int) < na := by omega
        have hin2 : decide ((i : Int) < nb) = false := decide_eq_false (by omega)
        go_upto_region 2 with fail
        refine wp_region_still_lit (by kernel_rfl) (by kernel_rfl) ?_
        have hbr' := Lib.hid hbr.out.drew
        change wpStill _ _ (World.drew wr) (fun a' => Exit.then _ _ _ a' (World.drew wr)) _ _
        clear hbr
        generalize wr.drew = wr at *
        repeat (first
          | ((with_reducible refine st_skip ?_ ?_); (· rfl); (simp only [Act.put, List.setIfInBounds_toArray, List.set_cons_zero, List.set_cons_succ]))
          | still_step)
        refine wpStill_nil ?_
        go_wp2_with fail
        go_ret
        exact ⟨i, rfl, ⟨by omega, hib⟩, HEQ.out, fun _ h => absurd h hi2, hbr'.out⟩
    · have hi0 : (0 : Int) ≤ i := by omega
      have hin : decide ((i : Int) < na) = false := decide_eq_false (by omega)
      go_upto_region 2 with fail
      refine wp_region_still_lit (by kernel_rfl) (by kernel_rfl) ?_
      have hbr' := Lib.hid hbr.out.drew
      change wpStill _ _ (World.drew wr) (fun a' => Exit.then _ _ _ a' (World.drew wr)) _ _
      clear hbr
      generalize wr.drew = wr at *
      repeat (first
        | ((with_reducible refine st_skip ?_ ?_); (· rfl); (simp only [Act.put, List.setIfInBounds_toArray, List.set_cons_zero, List.set_cons_succ]))
        | still_step)
      refine wpStill_nil ?_
      go_wp2_with fail
      go_ret
      exact ⟨i, rfl, ⟨by omega, hib⟩, HEQ.out, fun h _ => absurd h hi, hbr'.out⟩
/-- a slice of rows of s integers inside another value, and how many octets it may hold. -/
theorem Rd.rowsG {s t e f : Nat} {w : World} {cs : List Value} (h : Rd Tryd.prog w t cs) (hu : Tryd.prog.underlying t = some (.slice e)) (hk : flat Tryd.prog f e = some (List.replicate s (some .i64))) (hc : Tryd.prog.cellsOf e = s) (hp : 0 < s) :
    ∃ a n c L, cs = [.slice a n c] ∧ n ≤ c ∧ c ≤ maxLen ∧ n * Tryd.prog.bytesOf e ≤ reachBytes ∧ Sl w a n s (ints L) ∧ ∀ z ∈ L, fits z = true := by
  obtain ⟨a, n, c, xs, rfl, h1, h2, h3, h4, h5⟩ := h.flat_slice hu hk (by rw [hc, List.length_replicate]) (by rw [List.length_replicate]; exact hp)
  rw [List.length_replicate] at h4 h5
  have hE : ∃ L : List Int, xs = ints L ∧ ∀ z ∈ L, (Lit.int .i64 z).wf = true := by
    refine all_intsG fun u hu => ?_
    obtain ⟨j, hj, rfl⟩ := List.getElem_of_mem hu
    have hl : xs.length = n * s := h4.1
    have hi : j / s < n := Nat.div_lt_of_lt_mul (by rw [Nat.mul_comm, ← hl]; exact hj)
    have hm := Nat.mod_lt j hp
    have hdm : j / s * s + j % s = j := Nat.div_add_mod' j s
    have : ((xs.drop (j / s * s)).take s)[j % s]? = some xs[j] := by
      rw [List.getElem?_take_of_lt hm, List.getElem?_drop, hdm, List.getElem?_eq_getElem hj]
    obtain ⟨k, hk1, hk⟩ := (h5 _ hi).get this
    rw [List.getElem?_replicate, if_pos hm] at hk1
    obtain rfl := Option.some.inj hk1
    exact hk
  obtain ⟨L, rfl, hL⟩ := hE
  exact ⟨a, n, c, L, rfl, h1, h2, h3, h4, fun z hz => fits_wf (hL z hz)⟩
theorem Arg.outcome {w : World} {v : Value} (h : Arg Tryd.prog w 42 v) : ∃ oc oa on ok L, v = .agg #[.int .i64 oc, .slice oa on ok] ∧ on * 40 ≤ 140737488355328 ∧ Sl w oa on 5 (ints L) ∧ ∀ z ∈ L, fits z = true := by
  obtain ⟨cs, rfl, hr⟩ := h.shape_struct Tryd.underlying42
  have hl := hr.len Tryd.underlying42
  rw [show Tryd.prog.cellsOf 42 = 2 by kernel_rfl] at hl
  obtain ⟨u0, u1, rfl⟩ : ∃ u0 u1, cs = [u0, u1] := by
    match cs, hl with
    | [u0, u1], _ => exact ⟨u0, u1, rfl⟩
  have h0 := (hr.at_ Tryd.underlying42 0 29 0 1 (by kernel_rfl) (by kernel_rfl)).isFlat (f := 3) (ks := [some .i64]) (by kernel_rfl)
  obtain ⟨l, hl1, hl2, hl3⟩ := ints_of_ok (k := .i64) 1 _ h0
  obtain ⟨oa, on, ok, L, h1, h2, h3, h4, h5, h6⟩ := (hr.at_ Tryd.underlying42 1 40 1 1 (by kernel_rfl) (by kernel_rfl)).rowsG Tryd.underlying40 flatEf (by kernel_rfl) (by decide)
  rw [show Tryd.prog.bytesOf 25 = 40 by kernel_rfl] at h4
  match l, hl1 with
  | [oc], _ =>
    simp only [List.drop_zero, List.drop_succ_cons, List.take_succ_cons, List.take_zero, List.cons.injEq, and_true, List.map_cons, List.map_nil] at hl2 h1
    subst hl2 h1
    exact ⟨oc, oa, on, ok, L, rfl, by have := reachBytes_lt; omega, h5, h6⟩
/-- a list of effects, as it is handed about. -/
def RowV (w : World) (v : Value) (n : Nat) (L : List Int) : Prop := ∃ a c, v = .slice a n c ∧ n ≤ c ∧ c ≤ 9223372036854775807 ∧ Sl w a n 5 (ints L)
theorem RowV.keep {w w' : World} {v : Value} {n : Nat} {L : List Int} (h : RowV w v n L) (hb : Below w.heap.size w w') : RowV w' v n L := by
  obtain ⟨a, c, h1, h2, h3, h4⟩ := h
  exact ⟨a, c, h1, h2, h3, h4.keep hb⟩
theorem RowV.of {w : World} {B : Nat} {v : Value} {n : Nat} {L : List Int} (h : w.ownsRow B 25 5 v n (ints L)) : RowV w v n L := by
  obtain ⟨a, c, h1, h2, h3, h4⟩ := Sl.own h
  exact ⟨a, c, h1, h2, by simpa [maxLen] using h3, h4⟩
theorem pick_mem {p : Int → Bool} {L : List Int} : ∀ {k : Nat} {z : Int}, z ∈ pickR p L k → z ∈ L
  | 0, z, h => by cases h
  | k + 1, z, h => by
    rw [pickR] at h
    rcases List.mem_append.1 h with h | h
    · exact pick_mem h
    · split at h
      · exact rAt_mem h
      · cases h
theorem want_mem {code : Int} {good : Bool} {L : List Int} {n : Nat} {z : Int} (h : z ∈ wantR code good L n) : z ∈ L := by
  unfold wantR at h
  split at h
  · split at h
    · rcases List.mem_append.1 h with h | h <;> exact pick_mem h
    · exact pick_mem h
  · cases h
theorem want_le (code : Int) (good : Bool) (L : List Int) (n : Nat) : wantN code good L n ≤ n := by
  have := pick_sum L n
  unfold wantN
  split
  · split <;> omega
  · omega
theorem wantv (code : Int) (good : Bool) (a : Option Addr) (n c : Nat) (L : List Int) (w : World) (hs : Sl w a n 5 (ints L)) (hn : n * 40 ≤ 140737488355328) :
    Calls Tryd.prog 14 #[.agg #[.int .i64 code, .slice a n c], .bool good] w fun e w' => ∃ v, e = .returned v ∧ RowV w' v (wantN code good L n) (wantR code good L n) ∧ Below w.heap.size w w' := by
  refine (want_any code good a n c L w hs hn).mono ?_
  rintro e w' ⟨v, rfl, ho, hb⟩
  exact ⟨v, rfl, RowV.of ho, hb⟩
theorem rwantv (code : Int) (good : Bool) (a : Option Addr) (n c : Nat) (L : List Int) (w : World) (hs : Sl w a n 5 (ints L)) (hn : n * 40 ≤ 140737488355328) :
    Calls Tryd.prog 17 #[.agg #[.int .i64 code, .slice a n c], .bool good] w fun e w' => ∃ a' c', e = .returned (.slice a' (wantN code good L n) c') ∧ Sl w' a' (wantN code good L n) 5 (ints (wantR code good L n)) ∧ Below w.heap.size w w' := by
  refine (rwant_any code good a n c L w hs hn).mono ?_
  rintro e w' ⟨v, rfl, ho, hb⟩
  obtain ⟨a', c', rfl, _, _, h⟩ := Sl.own ho
  exact ⟨a', c', rfl, h, hb⟩
/-- the one that is wanted at once begins the one that is wanted for good. -/
theorem want_pre (code : Int) (L : List Int) (n : Nat) (hl : L.length = n * 5) : wantN code false L n ≤ wantN code true L n ∧ ∀ j, j < wantN code false L n → rAt 5 (wantR code true L n) j = rAt 5 (wantR code false L n) j := by
  unfold wantN wantR
  by_cases h : code = 0
  · rw [if_pos h, if_pos h, if_pos h, if_pos h]
    simp only [if_true, Bool.false_eq_true, if_false]
    refine ⟨by omega, fun j hj => ?_⟩
    exact rAt_app_lo (pick_len hl n (Nat.le_refl _)) hj
  · rw [if_neg h, if_neg h]
    exact ⟨Nat.le_refl _, fun j hj => absurd hj (Nat.not_lt_zero _)⟩
theorem take_same {s : Nat} {A B : List Int} : ∀ (k : Nat), (∀ j, j < k → rAt s A j = rAt s B j) → A.take (k * s) = B.take (k * s)
  | 0, _ => by rw [Nat.zero_mul]; rfl
  | k + 1, h => by rw [take_row, take_row, take_same k (fun j hj => h j (by omega)), h k (by omega)]
set_option maxRecDepth 100000 in
set_option maxHeartbeats 8000000 in
theorem wants10 (oc pc : Int) (oa pa : Option Addr) (on ok pn pk : Nat) (LO LP : List Int) (w : World) (hT : PTab w) (hW : WTab w) (h1 : on * 40 ≤ 140737488355328) (h2 : pn * 40 ≤ 140737488355328) (hs1 : Sl w oa on 5 (ints LO)) (hs2 : Sl w pa pn 5 (ints LP)) (hf1 : ∀ z ∈ LO, fits z = true) (hf2 : ∀ z ∈ LP, fits z = true) :
    Calls Tryd.prog 4 #[.agg #[.int .i64 oc, .slice oa on ok], .agg #[.int .i64 pc, .slice pa pn pk]] w fun e w' => e = .returned (.bool true) ∧ Below w.heap.size w w' := by
  have HB := Lib.hid (((Below.refl w.heap.size w).alloc (Nat.le_refl _) (.cells #[.int .i64 oc, .slice oa on ok] 42)).alloc (by simp) (.cells #[.int .i64 pc, .slice pa pn pk] 42))
  have A := Lib.hid ((Blk.new w #[.int .i64 oc, .slice oa on ok] 42).alloc (.cells #[.int .i64 pc, .slice pa pn pk] 42))
  have Bp := Lib.hid (Blk.new (w.alloc (.cells #[.int .i64 oc, .slice oa on ok] 42)) #[.int .i64 pc, .slice pa pn pk] 42)
  have Bp : Hid (Blk ((w.alloc (.cells #[.int .i64 oc, .slice oa on ok] 42)).alloc (.cells #[.int .i64 pc, .slice pa pn pk] 42)) (w.heap.size + 1) [.int .i64 pc, .slice pa pn pk] 42) := Lib.hid (by have := Bp.out; simpa using this)
  have A : Hid (Blk ((w.alloc (.cells #[.int .i64 oc, .slice oa on ok] 42)).alloc (.cells #[.int .i64 pc, .slice pa pn pk] 42)) w.heap.size [.int .i64 oc, .slice oa on ok] 42) := Lib.hid (by have := A.out; simpa using this)
  have HAL := Lib.hid (fun w' (hb : Below w.heap.size w w') => alive10 w' (hT.keep hb) (hW.keep hb))
  have KO := Lib.hid (fun w' (hb : Below w.heap.size w w') => hs1.keep hb)
  have KP := Lib.hid (fun w' (hb : Below w.heap.size w w') => hs2.keep hb)
  have hlo : LO.length = on * 5 := by have := hs1.1; rwa [ints_len] at this
  have H1 := Lib.hid h1
  have H2 := Lib.hid h2
  have HPRE := Lib.hid (want_pre oc LO on hlo)
  have LEA := Lib.hid (want_le oc true LO on)
  have LEB := Lib.hid (want_le oc false LO on)
  have LEC := Lib.hid (want_le pc true LP pn)
  have HFA := Lib.hid (fun z (hz : z ∈ wantR oc true LO on) => hf1 z (want_mem hz))
  have HFB := Lib.hid (fun z (hz : z ∈ wantR oc false LO on) => hf1 z (want_mem hz))
  have HFC := Lib.hid (fun z (hz : z ∈ wantR pc true LP pn) => hf2 z (want_mem hz))
  have WA0 := Lib.hid (fun w' (hb : Below w.heap.size w w') => wantv oc true oa on ok LO w' (KO.out w' hb) H1.out)
  have WB0 := Lib.hid (fun w' (hb : Below w.heap.size w w') => wantv oc false oa on ok LO w' (KO.out w' hb) H1.out)
  have WC0 := Lib.hid (fun w' (hb : Below w.heap.size w w') => wantv pc true pa pn pk LP w' (KP.out w' hb) H2.out)
  have RWA0 := Lib.hid (fun w' (hb : Below w.heap.size w w') => rwantv oc true oa on ok LO w' (KO.out w' hb) H1.out)
  have RWB0 := Lib.hid (fun w' (hb : Below w.heap.size w w') => rwantv oc false oa on ok LO w' (KO.out w' hb) H1.out)
  have hna : ((wantN oc true LO on : Nat) : Int) ≤ 3518437208883 := by have := LEA.out; omega
  have hnb : ((wantN oc false LO on : Nat) : Int) ≤ 3518437208883 := by have := LEB.out; omega
  have hnc : ((wantN pc true LP pn : Nat) : Int) ≤ 3518437208883 := by have := LEC.out; omega
  clear h1 h2 hs1 hs2 hf1 hf2 hT hW hlo LEA LEB LEC H1 H2 KO KP
  generalize wantN oc true LO on = na at *
  generalize wantN oc false LO on = nb at *
  generalize wantN pc true LP pn = nc at *
  generalize wantR oc true LO on = RA at *
  generalize wantR oc false LO on = RB at *
  generalize wantR pc true LP pn = RC at *
  go_enter Tryd.func4, Tryd.ntmps4
  go_upto_region 1 with fail
  generalize hg0 : w.heap.size = g0 at *
  have HG0 := Lib.hid hg0
  generalize (w.alloc (.cells #[.int .i64 oc, .slice oa on ok] 42)).alloc (.cells #[.int .i64 pc, .slice pa pn pk] 42) = w1 at *
  clear hg0
  have AL1 := Lib.hid (HAL.out w1 HB.out)
  go_wp2_with fail
  refine AL1.out.mono ?_
  rintro e w2 ⟨rfl, hb⟩
  have HB2 := Lib.hid (HB.out.trans (hb.mono (HG0.out ▸ HB.out.size)))
  have A2 := Lib.hid (A.out.keep hb A.out.lt)
  have B2 := Lib.hid (Bp.out.keep hb Bp.out.lt)
  clear hb HB A Bp AL1 HAL
  have WA := Lib.hid (fun w' (hb : Below w2.heap.size w2 w') => WA0.out w' (HB2.out.trans (hb.mono (HG0.out ▸ HB2.out.size))))
  have WB := Lib.hid (fun w' (hb : Below w2.heap.size w2 w') => WB0.out w' (HB2.out.trans (hb.mono (HG0.out ▸ HB2.out.size))))
  go_upto_region 3 with fail
  go_cut [5, 6] (fun s5 s6 wx => Hid (RowV wx s5 na RA) ∧ Hid (RowV wx s6 nb RB) ∧ Hid (Below w2.heap.size w2 wx))
  case first =>
    refine held_begin (fun w' => Below w2.heap.size w2 w') 6 [false, false, false, false, false, false] (by kernel_rfl) rfl (by rfl) ?_
    have hHeld : Below w2.heap.size w2 w2.drew := (Below.refl _ _).drew
    refine held_take (v := .agg #[.int .i64 oc, .slice oa on ok]) 0 11 [true, false, false, false, false, false] rfl (by rfl) (by rfl) (by kernel_rfl) (by kernel_rfl) (by kernel_rfl) (by rfl) (fun _ _ _ h => h) (fun w' h => run_op_load rfl rfl (((A2.out.keep h A2.out.lt).range 0 [.int .i64 oc, .slice oa on ok] (by simp))) Tryd.underlying42 rfl out_row.2) hHeld ?_
    simp only [Act.put, List.setIfInBounds_toArray, List.set_cons_zero, List.set_cons_succ]
    refine held_take (v := .agg #[.int .i64 oc, .slice oa on ok]) 2 13 [true, false, true, false, false, false] rfl (by rfl) (by rfl) (by kernel_rfl) (by kernel_rfl) (by kernel_rfl) (by rfl) (fun _ _ _ h => h) (fun w' h => run_op_load rfl rfl (((A2.out.keep h A2.out.lt).range 0 [.int .i64 oc, .slice oa on ok] (by simp))) Tryd.underlying42 rfl out_row.2) hHeld ?_
    simp only [Act.put, List.setIfInBounds_toArray, List.set_cons_zero, List.set_cons_succ]
    refine held_call 1 12 [true, true, true, false, false, false] (by kernel_rfl) rfl (by rfl) (by rfl) (by rfl) (by go_simp) ((WA.out _ hHeld).mono ?_)
    rintro e w3 ⟨v3, rfl, hr3, hb3⟩
    refine ⟨_, rfl, hHeld.trans (hb3.mono hHeld.size), fun hHeld => ?_⟩
    simp only [Act.put, List.setIfInBounds_toArray, List.set_cons_zero, List.set_cons_succ]
    refine held_call 3 14 [true, true, true, true, false, false] (by kernel_rfl) rfl (by rfl) (by rfl) (by rfl) (by go_simp) ((WB.out _ hHeld).mono ?_)
    rintro e w4 ⟨v4, rfl, hr4, hb4⟩
    refine ⟨_, rfl, hHeld.trans (hb4.mono hHeld.size), fun hHeld => ?_⟩
    simp only [Act.put, List.setIfInBounds_toArray, List.set_cons_zero, List.set_cons_succ]
    have hr3 := hr3.keep hb4
    refine held_take (v := ?_) 4 5 [true, true, true, true, true, false] rfl (by rfl) (by rfl) (by kernel_rfl) (by kernel_rfl) (by kernel_rfl) (by rfl) (fun _ _ _ h => h) ?_ hHeld ?_
    rotate_left
    · intro w hSw; go_simp <;> with_reducible rfl
    simp only [Act.put, List.setIfInBounds_toArray, List.set_cons_zero, List.set_cons_succ]
    refine held_take (v := ?_) 5 6 [true, true, true, true, true, true] rfl (by rfl) (by rfl) (by kernel_rfl) (by kernel_rfl) (by kernel_rfl) (by rfl) (fun _ _ _ h => h) ?_ hHeld ?_
    rotate_left
    · intro w hSw; go_simp <;> with_reducible rfl
    simp only [Act.put, List.setIfInBounds_toArray, List.set_cons_zero, List.set_cons_succ]
    refine held_done (by kernel_rfl) ?_
    go_wp2_with fail
    go_meet
    exact ⟨Lib.hid hr3, Lib.hid hr4, Lib.hid hHeld⟩
  case rest =>
    obtain ⟨HRA, HRB, hbc⟩ := hcut
    have HB3 := Lib.hid (HB2.out.trans (hbc.out.mono (HG0.out ▸ HB2.out.size)))
    have A3 := Lib.hid (A2.out.keep hbc.out A2.out.lt)
    have B3 := Lib.hid (B2.out.keep hbc.out B2.out.lt)
    clear hbc HB2 A2 B2 WA WB WA0 WB0
    have ro := B3.out.range 0 [.int .i64 pc, .slice pa pn pk] rfl
    have TO3 : RowT 42 ([.int .i64 pc, .slice pa pn pk] : List Value).length := out_row
    have WC := Lib.hid (WC0.out wc HB3.out)
    go_upto_region 4 with fail
    go_wp2_with (first
      | ((with_reducible refine ld_row ro TO3 ?_ ?_ ?_); (· rfl); (· rfl); (simp only [Act.put, List.setIfInBounds_toArray, List.set_cons_zero, List.set_cons_succ])))
    refine WC.out.mono ?_
    rintro e w4 ⟨v4, rfl, hr4, hb⟩
    have HB4 := Lib.hid (HB3.out.trans (hb.mono (HG0.out ▸ HB3.out.size)))
    have A4 := Lib.hid (A3.out.keep hb A3.out.lt)
    have HRA4 := HRA.out.keep hb
    have HRB4 := HRB.out.keep hb
    obtain ⟨aa, ka, rfl, hka, hka2, hsa⟩ := HRA4
    obtain ⟨ab, kb, rfl, hkb, hkb2, hsb⟩ := HRB4
    obtain ⟨ac, kc, rfl, hkc, hkc2, hsc⟩ := hr4
    have HSA4 := Lib.hid hsa
    have HSB4 := Lib.hid hsb
    have HSC4 := Lib.hid hsc
    clear hb HB3 A3 B3 HRA HRB WC WC0 ro hsa hsb hsc
    go_wp2_with fail
    refine (common_any aa ac na ka nc kc RA RC w4 HSA4.out HSC4.out hna HFA.out HFC.out).mono ?_
    rintro e w5 ⟨k, rfl, ⟨hk1, hk2⟩, heq, hne, hb⟩
    have HB5 := Lib.hid (HB4.out.trans (hb.mono (HG0.out ▸ HB4.out.size)))
    have A5 := Lib.hid (A4.out.keep hb A4.out.lt)
    have HSA5 := Lib.hid (HSA4.out.keep hb)
    have HSB5 := Lib.hid (HSB4.out.keep hb)
    have HSC5 := Lib.hid (HSC4.out.keep hb)
    have HEQ := Lib.hid heq
    have HNE := Lib.hid hne
    clear hb HB4 A4 HSA4 HSB4 HSC4 heq hne
    have hk0 : (0 : Int) ≤ k := by omega
    have hk0' : ¬ (k : Int) < 0 := by omega
    have hka' : ¬ (na : Int) < k := by omega
    have hkc' : ¬ (nc : Int) < k := by omega
    go_upto_region 6 with fail
    go_cut [56] (fun s56 wx => s56 = .bool false ∧ Hid (Below w5.heap.size w5 wx))
    case first =>
      by_cases hi : k < na
      · by_cases hi2 : k < nc
        · have hin : (k : Int) < na := by omega
          have hin2 : (k : Int) < nc := by omega
          obtain ⟨b1, off, rfl, hb1, hra2⟩ := rAt_at HSA5.out hi
          obtain ⟨b', off', rfl, hb', hrb2⟩ := rAt_at HSC5.out hi2
          have hla : RA.length = na * 5 := by have := HSA5.out.1; rwa [ints_len] at this
          have hlc : RC.length = nc * 5 := by have := HSC5.out.1; rwa [ints_len] at this
          have L5 : Hid ((rAt 5 RA k).length = 5) := Lib.hid (rAt_len hla hi)
          have M5 : Hid ((rAt 5 RC k).length = 5) := Lib.hid (rAt_len hlc hi2)
          have OKX := ok_ef L5.out (fun z hz => HFA.out z (rAt_mem hz))
          have OKY := ok_ef M5.out (fun z hz => HFC.out z (rAt_mem hz))
          have EQ := Lib.hid (ef_eq OKX OKY)
          have hsb : sameB (ints (rAt 5 RA k)) (ints (rAt 5 RC k)) = false := Bool.eq_false_iff.2 (fun e => HNE.out hi hi2 (ints_injE ((sameB_iff OKX OKY).1 e)))
          rw [hsb] at EQ
          have TX : RowT 25 (ints (rAt 5 RA k)).length := by rw [ints_len, L5.out]; exact eff_row
          have TY : RowT 25 (ints (rAt 5 RC k)).length := by rw [ints_len, M5.out]; exact eff_row
          clear hsb OKX OKY hla hlc HEQ HNE
          generalize rAt 5 RA k = x at *
          generalize rAt 5 RC k = y at *
          refine wp_region_still_lit (by kernel_rfl) (by kernel_rfl) ?_
          have hb6' := Lib.hid HB5.out.drew
          have hra' : w5.drew.rangeAt b1 (off + k * 5) (ints x) := hra2
          have hrb' : w5.drew.rangeAt b' (off' + k * 5) (ints y) := hrb2
          clear hra2 hrb2
          change wpStill _ _ (World.drew w5) (fun a' => Exit.then _ _ _ a' (World.drew w5)) _ _
          have HD6 := Lib.hid (show Below w5.heap.size w5 w5.drew from (Below.refl _ _).drew)
          generalize w5.drew = w6 at *
          repeat (first
            | ((with_reducible refine lds_rowG hra' TX ?_ ?_ ?_); (· rfl); (· rfl); (simp only [Act.put, List.setIfInBounds_toArray, List.set_cons_zero, List.set_cons_succ]))
            | ((with_reducible refine lds_rowG hrb' TY ?_ ?_ ?_); (· rfl); (· rfl); (simp only [Act.put, List.setIfInBounds_toArray, List.set_cons_zero, List.set_cons_succ]))
            | ((with_reducible refine cmps_rowG ef_guard EQ.out ?_ ?_ ?_ ?_); (· rfl); (· rfl); (· rfl); (simp only [Act.put, List.setIfInBounds_toArray, List.set_cons_zero, List.set_cons_succ]))
            | ((with_reducible refine st_skip ?_ ?_); (· rfl); (simp only [Act.put, List.setIfInBounds_toArray, List.set_cons_zero, List.set_cons_succ]))
            | still_step)
          refine wpStill_nil ?_
          go_wp2_with fail
          go_meet
          exact ⟨by first | rfl | (simp; omega), HD6⟩
        · have hin : (k : Int) < na := by omega
          have hin2 : decide ((k : Int) < nc) = false := decide_eq_false (by omega)
          refine wp_region_still_lit (by kernel_rfl) (by kernel_rfl) ?_
          have hb6' := Lib.hid HB5.out.drew
          change wpStill _ _ (World.drew w5) (fun a' => Exit.then _ _ _ a' (World.drew w5)) _ _
          have HD6 := Lib.hid (show Below w5.heap.size w5 w5.drew from (Below.refl _ _).drew)
          generalize w5.drew = w6 at *
          repeat (first
            | ((with_reducible refine st_skip ?_ ?_); (· rfl); (simp only [Act.put, List.setIfInBounds_toArray, List.set_cons_zero, List.set_cons_succ]))
            | still_step)
          refine wpStill_nil ?_
          go_wp2_with fail
          go_meet
          exact ⟨by first | rfl | (simp; omega), HD6⟩
      · have hin : decide ((k : Int) < na) = false := decide_eq_false (by omega)
        refine wp_region_still_lit (by kernel_rfl) (by kernel_rfl) ?_
        have hb6' := Lib.hid HB5.out.drew
        change wpStill _ _ (World.drew w5) (fun a' => Exit.then _ _ _ a' (World.drew w5)) _ _
        have HD6 := Lib.hid (show Below w5.heap.size w5 w5.drew from (Below.refl _ _).drew)
        generalize w5.drew = w6 at *
        repeat (first
          | ((with_reducible refine st_skip ?_ ?_); (· rfl); (simp only [Act.put, List.setIfInBounds_toArray, List.set_cons_zero, List.set_cons_succ]))
          | still_step)
        refine wpStill_nil ?_
        go_wp2_with fail
        go_meet
        exact ⟨by first | rfl | (simp; omega), HD6⟩
    case rest =>
      obtain ⟨rfl, hbc⟩ := hcut
      generalize wc = w6 at *
      have HB6 := Lib.hid (HB5.out.trans (hbc.out.mono (HG0.out ▸ HB5.out.size)))
      have A6 := Lib.hid (A5.out.keep hbc.out A5.out.lt)
      have HSA := Lib.hid (HSA5.out.keep hbc.out)
      have HSB := Lib.hid (HSB5.out.keep hbc.out)
      have HSC := Lib.hid (HSC5.out.keep hbc.out)
      clear hbc HB5 A5 HSA5 HSB5 HSC5 HNE hka' hkc' hk0'
      have RWA := Lib.hid (fun w' (hb : Below w6.heap.size w6 w') => RWA0.out w' (HB6.out.trans (hb.mono (HG0.out ▸ HB6.out.size))))
      have RWB := Lib.hid (fun w' (hb : Below w6.heap.size w6 w') => RWB0.out w' (HB6.out.trans (hb.mono (HG0.out ▸ HB6.out.size))))
      have EFK := Lib.hid (fun w' (hb : Below w6.heap.size w6 w') => effs_same aa ac k ka kc (RA.take (k * 5)) w' ((HSA.out.keep hb).fewG hk1) (by rw [take_same k HEQ.out]; exact (HSC.out.keep hb).fewG hk2) (by omega) (fun z hz => HFA.out z (List.mem_of_mem_take hz)))
      have COB : Hid (∀ w', Below w6.heap.size w6 w' → Calls Tryd.prog 15 #[.slice aa na ka, .slice ab nb kb] w' fun e w2 => e = .returned (.int .i64 nb) ∧ Below w'.heap.size w' w2) := Lib.hid (fun w' hb => (common_any aa ab na ka nb kb RA RB w' (HSA.out.keep hb) (HSB.out.keep hb) hna HFA.out HFB.out).mono (by
        rintro e w2 ⟨k2, rfl, ⟨h1, h2⟩, _, h4, h5⟩
        have : k2 = nb := by
          rcases Nat.lt_or_ge k2 nb with hlt | hge
          · exact absurd (HPRE.out.2 k2 hlt) (h4 (by have := HPRE.out.1; omega) hlt)
          · omega
        rw [this]
        exact ⟨rfl, h5⟩))
      clear RWA0 RWB0 HEQ HPRE HFC
      have hkaI : (k : Int) ≤ ka := by omega
      have hkcI : (k : Int) ≤ kc := by omega
      go_upto_region 8 with fail
      refine held_begin (fun w' => Below w6.heap.size w6 w') 28 [false, false, false, false, false, false, false, false, false, false, false, false, false, false, false, false, false, false, false, false, false, false, false, false, false, false, false, false] (by kernel_rfl) rfl (by rfl) ?_
      have hHeld : Below w6.heap.size w6 w6.drew := (Below.refl _ _).drew
      refine held_take (v := ?_) 0 57 [true, false, false, false, false, false, false, false, false, false, false, false, false, false, false, false, false, false, false, false, false, false, false, false, false, false, false, false] rfl (by rfl) (by rfl) (by kernel_rfl) (by kernel_rfl) (by kernel_rfl) (by rfl) (fun _ _ _ h => h) ?_ hHeld ?_
      rotate_left
      · intro w hSw; go_simp <;> with_reducible rfl
      simp only [Act.put, List.setIfInBounds_toArray, List.set_cons_zero, List.set_cons_succ]
      refine held_take (v := .agg #[.int .i64 oc, .slice oa on ok]) 1 58 [true, true, false, false, false, false, false, false, false, false, false, false, false, false, false, false, false, false, false, false, false, false, false, false, false, false, false, false] rfl (by rfl) (by rfl) (by kernel_rfl) (by kernel_rfl) (by kernel_rfl) (by rfl) (fun _ _ _ h => h) (fun w' h => run_op_load rfl rfl (((A6.out.keep h A6.out.lt).range 0 [.int .i64 oc, .slice oa on ok] (by simp))) Tryd.underlying42 rfl out_row.2) hHeld ?_
      simp only [Act.put, List.setIfInBounds_toArray, List.set_cons_zero, List.set_cons_succ]
      refine held_call 2 59 [true, true, true, false, false, false, false, false, false, false, false, false, false, false, false, false, false, false, false, false, false, false, false, false, false, false, false, false] (by kernel_rfl) rfl (by rfl) (by rfl) (by rfl) (by go_simp) ((RWA.out _ hHeld).mono ?_)
      rintro e w7 ⟨a7, c7, rfl, hs7, hb7⟩
      refine ⟨_, rfl, hHeld.trans (hb7.mono hHeld.size), fun hHeld => ?_⟩
      simp only [Act.put, List.setIfInBounds_toArray, List.set_cons_zero, List.set_cons_succ]
      refine held_call 3 60 [true, true, true, true, false, false, false, false, false, false, false, false, false, false, false, false, false, false, false, false, false, false, false, false, false, false, false, false] (by kernel_rfl) rfl (by rfl) (by rfl) (by rfl) (by go_simp) ((effs_same aa a7 na ka c7 RA _ (HSA.out.keep hHeld) hs7 hna HFA.out).mono ?_)
      rintro e w8 ⟨rfl, hb8⟩
      refine ⟨_, rfl, hHeld.trans (hb8.mono hHeld.size), fun hHeld => ?_⟩
      simp only [Act.put, List.setIfInBounds_toArray, List.set_cons_zero, List.set_cons_succ]
      refine held_take (v := ?_) 4 61 [true, true, true, true, true, false, false, false, false, false, false, false, false, false, false, false, false, false, false, false, false, false, false, false, false, false, false, false] rfl (by rfl) (by rfl) (by kernel_rfl) (by kernel_rfl) (by kernel_rfl) (by rfl) (fun _ _ _ h => h) ?_ hHeld ?_
      rotate_left
      · intro w hSw; go_simp <;> with_reducible rfl
      simp only [Act.put, List.setIfInBounds_toArray, List.set_cons_zero, List.set_cons_succ]
      refine held_take (v := ?_) 5 62 [true, true, true, true, true, true, false, false, false, false, false, false, false, false, false, false, false, false, false, false, false, false, false, false, false, false, false, false] rfl (by rfl) (by rfl) (by kernel_rfl) (by kernel_rfl) (by kernel_rfl) (by rfl) (fun _ _ _ h => h) ?_ hHeld ?_
      rotate_left
      · intro w hSw; go_simp <;> with_reducible rfl
      simp only [Act.put, List.setIfInBounds_toArray, List.set_cons_zero, List.set_cons_succ]
      refine held_take (v := .agg #[.int .i64 oc, .slice oa on ok]) 6 63 [true, true, true, true, true, true, true, false, false, false, false, false, false, false, false, false, false, false, false, false, false, false, false, false, false, false, false, false] rfl (by rfl) (by rfl) (by kernel_rfl) (by kernel_rfl) (by kernel_rfl) (by rfl) (fun _ _ _ h => h) (fun w' h => run_op_load rfl rfl (((A6.out.keep h A6.out.lt).range 0 [.int .i64 oc, .slice oa on ok] (by simp))) Tryd.underlying42 rfl out_row.2) hHeld ?_
      simp only [Act.put, List.setIfInBounds_toArray, List.set_cons_zero, List.set_cons_succ]
      refine held_call 7 64 [true, true, true, true, true, true, true, true, false, false, false, false, false, false, false, false, false, false, false, false, false, false, false, false, false, false, false, false] (by kernel_rfl) rfl (by rfl) (by rfl) (by rfl) (by go_simp) ((RWB.out _ hHeld).mono ?_)
      rintro e w9 ⟨a9, c9, rfl, hs9, hb9⟩
      refine ⟨_, rfl, hHeld.trans (hb9.mono hHeld.size), fun hHeld => ?_⟩
      simp only [Act.put, List.setIfInBounds_toArray, List.set_cons_zero, List.set_cons_succ]
      refine held_call 8 65 [true, true, true, true, true, true, true, true, true, false, false, false, false, false, false, false, false, false, false, false, false, false, false, false, false, false, false, false] (by kernel_rfl) rfl (by rfl) (by rfl) (by rfl) (by go_simp) ((effs_same ab a9 nb kb c9 RB _ (HSB.out.keep hHeld) hs9 hnb HFB.out).mono ?_)
      rintro e wa ⟨rfl, hba⟩
      refine ⟨_, rfl, hHeld.trans (hba.mono hHeld.size), fun hHeld => ?_⟩
      simp only [Act.put, List.setIfInBounds_toArray, List.set_cons_zero, List.set_cons_succ]
      refine held_take (v := .bool true) 9 66 [true, true, true, true, true, true, true, true, true, true, false, false, false, false, false, false, false, false, false, false, false, false, false, false, false, false, false, false] rfl (by rfl) (by rfl) (by kernel_rfl) (by kernel_rfl) (by kernel_rfl) (by rfl) (fun _ _ _ h => h) (fun w h => by go_simp) hHeld ?_
      simp only [Act.put, List.setIfInBounds_toArray, List.set_cons_zero, List.set_cons_succ]
      refine held_take (v := ?_) 10 67 [true, true, true, true, true, true, true, true, true, true, true, false, false, false, false, false, false, false, false, false, false, false, false, false, false, false, false, false] rfl (by rfl) (by rfl) (by kernel_rfl) (by kernel_rfl) (by kernel_rfl) (by rfl) (fun _ _ _ h => h) ?_ hHeld ?_
      rotate_left
      · intro w hSw; go_simp <;> with_reducible rfl
      simp only [Act.put, List.setIfInBounds_toArray, List.set_cons_zero, List.set_cons_succ]
      refine held_take (v := ?_) 11 68 [true, true, true, true, true, true, true, true, true, true, true, true, false, false, false, false, false, false, false, false, false, false, false, false, false, false, false, false] rfl (by rfl) (by rfl) (by kernel_rfl) (by kernel_rfl) (by kernel_rfl) (by rfl) (fun _ _ _ h => h) ?_ hHeld ?_
      rotate_left
      · intro w hSw; go_simp <;> with_reducible rfl
      simp only [Act.put, List.setIfInBounds_toArray, List.set_cons_zero, List.set_cons_succ]
      refine held_take (v := ?_) 12 69 [true, true, true, true, true, true, true, true, true, true, true, true, true, false, false, false, false, false, false, false, false, false, false, false, false, false, false, false] rfl (by rfl) (by rfl) (by kernel_rfl) (by kernel_rfl) (by kernel_rfl) (by rfl) (fun _ _ _ h => h) ?_ hHeld ?_
      rotate_left
      · intro w hSw; go_simp <;> with_reducible rfl
      simp only [Act.put, List.setIfInBounds_toArray, List.set_cons_zero, List.set_cons_succ]
      refine held_take (v := .slice aa k ka) 13 70 [true, true, true, true, true, true, true, true, true, true, true, true, true, true, false, false, false, false, false, false, false, false, false, false, false, false, false, false] rfl (by rfl) (by rfl) (by kernel_rfl) (by kernel_rfl) (by kernel_rfl) (by rfl) (fun _ _ _ h => h) (fun w h => by go_simp) hHeld ?_
      simp only [Act.put, List.setIfInBounds_toArray, List.set_cons_zero, List.set_cons_succ]
      refine held_take (v := ?_) 14 71 [true, true, true, true, true, true, true, true, true, true, true, true, true, true, true, false, false, false, false, false, false, false, false, false, false, false, false, false] rfl (by rfl) (by rfl) (by kernel_rfl) (by kernel_rfl) (by kernel_rfl) (by rfl) (fun _ _ _ h => h) ?_ hHeld ?_
      rotate_left
      · intro w hSw; go_simp <;> with_reducible rfl
      simp only [Act.put, List.setIfInBounds_toArray, List.set_cons_zero, List.set_cons_succ]
      refine held_take (v := ?_) 15 72 [true, true, true, true, true, true, true, true, true, true, true, true, true, true, true, true, false, false, false, false, false, false, false, false, false, false, false, false] rfl (by rfl) (by rfl) (by kernel_rfl) (by kernel_rfl) (by kernel_rfl) (by rfl) (fun _ _ _ h => h) ?_ hHeld ?_
      rotate_left
      · intro w hSw; go_simp <;> with_reducible rfl
      simp only [Act.put, List.setIfInBounds_toArray, List.set_cons_zero, List.set_cons_succ]
      refine held_take (v := .slice ac k kc) 16 73 [true, true, true, true, true, true, true, true, true, true, true, true, true, true, true, true, true, false, false, false, false, false, false, false, false, false, false, false] rfl (by rfl) (by rfl) (by kernel_rfl) (by kernel_rfl) (by kernel_rfl) (by rfl) (fun _ _ _ h => h) (fun w h => by go_simp) hHeld ?_
      simp only [Act.put, List.setIfInBounds_toArray, List.set_cons_zero, List.set_cons_succ]
      refine held_call 17 74 [true, true, true, true, true, true, true, true, true, true, true, true, true, true, true, true, true, true, false, false, false, false, false, false, false, false, false, false] (by kernel_rfl) rfl (by rfl) (by rfl) (by rfl) (by go_simp) ((EFK.out _ hHeld).mono ?_)
      rintro e wb ⟨rfl, hbb⟩
      refine ⟨_, rfl, hHeld.trans (hbb.mono hHeld.size), fun hHeld => ?_⟩
      simp only [Act.put, List.setIfInBounds_toArray, List.set_cons_zero, List.set_cons_succ]
      refine held_take (v := .bool true) 18 75 [true, true, true, true, true, true, true, true, true, true, true, true, true, true, true, true, true, true, true, false, false, false, false, false, false, false, false, false] rfl (by rfl) (by rfl) (by kernel_rfl) (by kernel_rfl) (by kernel_rfl) (by rfl) (fun _ _ _ h => h) (fun w h => by go_simp) hHeld ?_
      simp only [Act.put, List.setIfInBounds_toArray, List.set_cons_zero, List.set_cons_succ]
      refine held_take (v := ?_) 19 76 [true, true, true, true, true, true, true, true, true, true, true, true, true, true, true, true, true, true, true, true, false, false, false, false, false, false, false, false] rfl (by rfl) (by rfl) (by kernel_rfl) (by kernel_rfl) (by kernel_rfl) (by rfl) (fun _ _ _ h => h) ?_ hHeld ?_
      rotate_left
      · intro w hSw; go_simp <;> with_reducible rfl
      simp only [Act.put, List.setIfInBounds_toArray, List.set_cons_zero, List.set_cons_succ]
      refine held_take (v := ?_) 20 77 [true, true, true, true, true, true, true, true, true, true, true, true, true, true, true, true, true, true, true, true, true, false, false, false, false, false, false, false] rfl (by rfl) (by rfl) (by kernel_rfl) (by kernel_rfl) (by kernel_rfl) (by rfl) (fun _ _ _ h => h) ?_ hHeld ?_
      rotate_left
      · intro w hSw; go_simp <;> with_reducible rfl
      simp only [Act.put, List.setIfInBounds_toArray, List.set_cons_zero, List.set_cons_succ]
      refine held_take (v := ?_) 21 78 [true, true, true, true, true, true, true, true, true, true, true, true, true, true, true, true, true, true, true, true, true, true, false, false, false, false, false, false] rfl (by rfl) (by rfl) (by kernel_rfl) (by kernel_rfl) (by kernel_rfl) (by rfl) (fun _ _ _ h => h) ?_ hHeld ?_
      rotate_left
      · intro w hSw; go_simp <;> with_reducible rfl
      simp only [Act.put, List.setIfInBounds_toArray, List.set_cons_zero, List.set_cons_succ]
      refine held_take (v := ?_) 23 80 [true, true, true, true, true, true, true, true, true, true, true, true, true, true, true, true, true, true, true, true, true, true, false, true, false, false, false, false] rfl (by rfl) (by rfl) (by kernel_rfl) (by kernel_rfl) (by kernel_rfl) (by rfl) (fun _ _ _ h => h) ?_ hHeld ?_
      rotate_left
      · intro w hSw; go_simp <;> with_reducible rfl
      simp only [Act.put, List.setIfInBounds_toArray, List.set_cons_zero, List.set_cons_succ]
      refine held_take (v := ?_) 24 81 [true, true, true, true, true, true, true, true, true, true, true, true, true, true, true, true, true, true, true, true, true, true, false, true, true, false, false, false] rfl (by rfl) (by rfl) (by kernel_rfl) (by kernel_rfl) (by kernel_rfl) (by rfl) (fun _ _ _ h => h) ?_ hHeld ?_
      rotate_left
      · intro w hSw; go_simp <;> with_reducible rfl
      simp only [Act.put, List.setIfInBounds_toArray, List.set_cons_zero, List.set_cons_succ]
      refine held_call 22 79 [true, true, true, true, true, true, true, true, true, true, true, true, true, true, true, true, true, true, true, true, true, true, true, true, true, false, false, false] (by kernel_rfl) rfl (by rfl) (by rfl) (by rfl) (by go_simp) ((COB.out _ hHeld).mono ?_)
      rintro e wc2 ⟨rfl, hbc⟩
      refine ⟨_, rfl, hHeld.trans (hbc.mono hHeld.size), fun hHeld => ?_⟩
      simp only [Act.put, List.setIfInBounds_toArray, List.set_cons_zero, List.set_cons_succ]
      refine held_take (v := .bool true) 25 82 [true, true, true, true, true, true, true, true, true, true, true, true, true, true, true, true, true, true, true, true, true, true, true, true, true, true, false, false] rfl (by rfl) (by rfl) (by kernel_rfl) (by kernel_rfl) (by kernel_rfl) (by rfl) (fun _ _ _ h => h) (fun w h => by go_simp) hHeld ?_
      simp only [Act.put, List.setIfInBounds_toArray, List.set_cons_zero, List.set_cons_succ]
      refine held_take (v := .bool true) 26 83 [true, true, true, true, true, true, true, true, true, true, true, true, true, true, true, true, true, true, true, true, true, true, true, true, true, true, true, false] rfl (by rfl) (by rfl) (by kernel_rfl) (by kernel_rfl) (by kernel_rfl) (by rfl) (fun _ _ _ h => h) (fun w h => by go_simp) hHeld ?_
      simp only [Act.put, List.setIfInBounds_toArray, List.set_cons_zero, List.set_cons_succ]
      refine held_take (v := ?_) 27 4 [true, true, true, true, true, true, true, true, true, true, true, true, true, true, true, true, true, true, true, true, true, true, true, true, true, true, true, true] rfl (by rfl) (by rfl) (by kernel_rfl) (by kernel_rfl) (by kernel_rfl) (by rfl) (fun _ _ _ h => h) ?_ hHeld ?_
      rotate_left
      · intro w hSw; go_simp <;> with_reducible rfl
      simp only [Act.put, List.setIfInBounds_toArray, List.set_cons_zero, List.set_cons_succ]
      refine held_done (by kernel_rfl) ?_
      have HB9 := HB6.out.trans (hHeld.mono (HG0.out ▸ HB6.out.size))
      go_wp2_with fail
      go_ret
      have hge := HG0.out
      subst hge
      exact ⟨rfl, HB9⟩
theorem wants10_law (v0 v1 : Value) (w : World) (hL : laidMet Tryd.prog Rows.effectWantsRow.laid w) (h0 : Arg Tryd.prog w 42 v0) (h1 : Arg Tryd.prog w 42 v1) : Calls Tryd.prog 4 #[v0, v1] w fun e w' => e = .returned (.bool true) ∧ Below w.heap.size w w' := by
  have hT : PTab w := ptab_of hL (l := Rows.effectWantsRow.laid) (List.Mem.tail _ (List.Mem.tail _ (List.Mem.head _)))
  have hW : WTab w := wtab_of hL (l := Rows.effectWantsRow.laid) (List.Mem.tail _ (List.Mem.tail _ (List.Mem.tail _ (List.Mem.head _))))
  obtain ⟨oc, oa, on, ok, LO, rfl, h2, h3, h4⟩ := h0.outcome
  obtain ⟨pc, pa, pn, pk, LP, rfl, h5, h6, h7⟩ := h1.outcome
  exact wants10 oc pc oa pa on ok pn pk LO LP w hT hW h2 h5 h3 h6 h4 h7
end Go.Proofs.YteebmpbplenikaaDoor
