/- WntM: several texts in one. -/
import Derived.Test.YteebmpbplenikaaDoorEff
import Derived.Test.YteebmpbplenikaaDoorRws
import Derived.Test.YteebmpbplenikaaDoorApp
import Derived.Deep.DeepCutAuto
import Derived.Maps.AppendAt
import Derived.Test.YteebmpbplenikaaDoorRow
import Derived.Test.YteebmpbplenikaaDoorOps
import Derived.RegionTactic
import Derived.BigRegion
import Derived.ChangeAlike
namespace Go.Proofs.YteebmpbplenikaaDoor
set_option linter.unusedVariables false
set_option linter.unusedSimpArgs false
open Go.ChangeShapes Go.WideShapes Go.ChangeAt Go.RowKit
theorem own_grown {w w' : World} {B : Nat} {e : TypeId} {s : Nat} {v : Value} {n : Nat} {xs : List Value} {row : Option Nat} (h : w.ownsRow B e s v n xs) (hg : w.grownBy w' row) (hne : ∀ g, row = some g → v.ownBlock ≠ some g) : w'.ownsRow B e s v n xs := by
  refine ⟨h.1, h.2.imp id ?_⟩
  rintro ⟨g, cap, cur, h1, h2, h3, h4⟩
  have hlt : g < w.heap.size := by
    rcases Nat.lt_or_ge g w.heap.size with hl | hl
    · exact hl
    · rw [Array.getElem?_eq_none hl] at h3; cases h3
  refine ⟨g, cap, cur, h1, h2, ?_, h4⟩
  rw [hg.block g hlt (fun e1 => hne g e1.symm (by rw [h1]; rfl))]
  exact h3
theorem own_ltb {w : World} {B : Nat} {e : TypeId} {s : Nat} {v : Value} {n : Nat} {xs : List Value} (h : w.ownsRow B e s v n xs) : ∀ g, v.ownBlock = some g → g < w.heap.size := fun g hg => (h.lt g hg).2
/-- two rows of our own, in two blocks. -/
structure Rows2 (w : World) (B : Nat) (e : TypeId) (s : Nat) (v1 : Value) (n1 : Nat) (x1 : List Value) (v2 : Value) (n2 : Nat) (x2 : List Value) : Prop where
  a : w.ownsRow B e s v1 n1 x1
  b : w.ownsRow B e s v2 n2 x2
  ap : ∀ g, v1.ownBlock = some g → v2.ownBlock ≠ some g
theorem Rows2.start (w : World) (B : Nat) (e : TypeId) (s : Nat) : Rows2 w B e s (.slice none 0 0) 0 [] (.slice none 0 0) 0 [] := ⟨World.ownsRow_nil _ _ _ _, World.ownsRow_nil _ _ _ _, fun g hg => by cases hg⟩
theorem Rows2.swap {w : World} {B : Nat} {e : TypeId} {s : Nat} {v1 : Value} {n1 : Nat} {x1 : List Value} {v2 : Value} {n2 : Nat} {x2 : List Value} (h : Rows2 w B e s v1 n1 x1 v2 n2 x2) : Rows2 w B e s v2 n2 x2 v1 n1 x1 := ⟨h.b, h.a, fun g hg hh => h.ap g hh hg⟩
theorem Rows2.keep {w w2 : World} {B : Nat} {e : TypeId} {s : Nat} {v1 : Value} {n1 : Nat} {x1 : List Value} {v2 : Value} {n2 : Nat} {x2 : List Value} (h : Rows2 w B e s v1 n1 x1 v2 n2 x2) (hb : Below w.heap.size w w2) : Rows2 w2 B e s v1 n1 x1 v2 n2 x2 := ⟨own_stay h.a hb, own_stay h.b hb, h.ap⟩
theorem Rows2.app {w w' : World} {B : Nat} {e : TypeId} {s : Nat} {v1 v1' : Value} {n1 n1' : Nat} {x1 x1' : List Value} {v2 : Value} {n2 : Nat} {x2 : List Value} (h : Rows2 w B e s v1 n1 x1 v2 n2 x2) (ho : w'.ownsRow B e s v1' n1' x1') (hg : w.grownBy w' v1.ownBlock) (hv : v1'.ownBlock = v1.ownBlock ∨ v1'.ownBlock = some w.heap.size) : Rows2 w' B e s v1' n1' x1' v2 n2 x2 := by
  refine ⟨ho, own_grown h.b hg h.ap, fun g hg1 hg2 => ?_⟩
  rcases hv with hv | hv
  · exact h.ap g (hv.symm.trans hg1) hg2
  · have h1 := own_ltb h.b g hg2
    rw [hv] at hg1
    injection hg1 with hg1
    omega
/-- the rows that are picked of the first k. -/
def pickR (p : Int → Bool) (L : List Int) : Nat → List Int
  | 0 => []
  | k + 1 => pickR p L k ++ (if p ((rAt 5 L k).getD 0 0) then rAt 5 L k else [])
def pickN (p : Int → Bool) (L : List Int) : Nat → Nat
  | 0 => 0
  | k + 1 => pickN p L k + (if p ((rAt 5 L k).getD 0 0) then 1 else 0)
theorem pick_yes {p : Int → Bool} {L : List Int} {k : Nat} (h : p ((rAt 5 L k).getD 0 0) = true) : pickR p L (k + 1) = pickR p L k ++ rAt 5 L k ∧ pickN p L (k + 1) = pickN p L k + 1 := by
  constructor
  · rw [pickR, if_pos h]
  · rw [pickN, if_pos h]
theorem pick_no {p : Int → Bool} {L : List Int} {k : Nat} (h : p ((rAt 5 L k).getD 0 0) = false) : pickR p L (k + 1) = pickR p L k ∧ pickN p L (k + 1) = pickN p L k := by
  constructor
  · rw [pickR, if_neg (by rw [h]; decide), List.append_nil]
  · rw [pickN, if_neg (by rw [h]; decide), Nat.add_zero]
theorem pick_len {p : Int → Bool} {L : List Int} {n : Nat} (hl : L.length = n * 5) : ∀ k, k ≤ n → (pickR p L k).length = pickN p L k * 5
  | 0, _ => rfl
  | k + 1, h => by
    have ih := pick_len (p := p) hl k (by omega)
    have := rAt_len (i := k) hl (by omega)
    rcases hp : p ((rAt 5 L k).getD 0 0) with _ | _
    · rw [(pick_no hp).1, (pick_no hp).2, ih]
    · rw [(pick_yes hp).1, (pick_yes hp).2, List.length_append, ih, this]; omega
def isLat (n : Int) : Bool := decide (7 ≤ n ∧ n ≤ 11)
def isNow (n : Int) : Bool := decide (1 ≤ n ∧ n ≤ 6)
theorem isLat_iff (n : Int) : isLat n = true ↔ 7 ≤ n ∧ n ≤ 11 := decide_eq_true_iff
theorem isNow_iff (n : Int) : isNow n = true ↔ 1 ≤ n ∧ n ≤ 6 := decide_eq_true_iff
theorem isNow_of {n : Int} (h : isLat n = false) : isNow n = isKnd n := by
  have h' : ¬ (7 ≤ n ∧ n ≤ 11) := of_decide_eq_false h
  unfold isNow isKnd
  by_cases h2 : 1 ≤ n ∧ n ≤ 6
  · rw [decide_eq_true h2, decide_eq_true (by omega)]
  · rw [decide_eq_false h2, decide_eq_false (by omega)]
theorem isNow_lat {n : Int} (h : isLat n = true) : isNow n = false := decide_eq_false (by have := (isLat_iff n).1 h; omega)
theorem pick_sum (L : List Int) : ∀ k, pickN isNow L k + pickN isLat L k ≤ k
  | 0 => Nat.le_refl _
  | k + 1 => by
    have ih := pick_sum L k
    rcases h : isLat ((rAt 5 L k).getD 0 0) with _ | _
    · rw [(pick_no h).2]
      rcases h2 : isNow ((rAt 5 L k).getD 0 0) with _ | _
      · rw [(pick_no h2).2]; omega
      · rw [(pick_yes h2).2]; omega
    · rw [(pick_yes h).2, (pick_no (isNow_lat h)).2]; omega
def wantR (code : Int) (good : Bool) (L : List Int) (n : Nat) : List Int := if code = 0 then (if good then pickR isNow L n ++ pickR isLat L n else pickR isNow L n) else []
def wantN (code : Int) (good : Bool) (L : List Int) (n : Nat) : Nat := if code = 0 then (if good then pickN isNow L n + pickN isLat L n else pickN isNow L n) else 0
theorem row5 {x : List Int} (h : x.length = 5) : ∃ k a n p q : Int, x = [k, a, n, p, q] := by
  match x, h with
  | [k, a, n, p, q], _ => exact ⟨k, a, n, p, q, rfl⟩
theorem eff_row : RowT 25 5 := ⟨⟨_, Tryd.underlying25, rfl⟩, by kernel_rfl⟩
theorem eff_info : (Tryd.prog.info? 25).map (fun i => (i.zero, i.size, i.bytes)) = some (some (.agg #[.int .i64 0, .int .i64 0, .int .i64 0, .int .i64 0, .int .i64 0]), 5, 40) := by kernel_rfl
theorem eff_whole : (Tryd.prog.info? 25).map (fun i => (i.zero.isSome, i.size)) = some (true, 5) := by kernel_rfl
theorem later_any (k a n p q : Int) (w : World) : Calls Tryd.prog 10 #[.agg #[.int .i64 k, .int .i64 a, .int .i64 n, .int .i64 p, .int .i64 q]] w fun e w' => e = .returned (.bool (isLat k)) ∧ Below w.heap.size w w' := by
  have HB := Lib.hid ((Below.refl w.heap.size w).alloc (Nat.le_refl _) (.cells #[.int .i64 k, .int .i64 a, .int .i64 n, .int .i64 p, .int .i64 q] 25))
  by_cases h1 : (7 : Int) ≤ k
  · by_cases h2 : k ≤ 11
    · rw [show isLat k = true from decide_eq_true ⟨h1, h2⟩]
      go_enter Tryd.func10, Tryd.ntmps10
      go_wp2_with fail
      go_ret
      exact ⟨rfl, by first | exact HB.out | simpa using HB.out⟩
    · rw [show isLat k = false from decide_eq_false (fun h => h2 h.2)]
      go_enter Tryd.func10, Tryd.ntmps10
      go_wp2_with fail
      go_ret
      exact ⟨rfl, by first | exact HB.out | simpa using HB.out⟩
  · rw [show isLat k = false from decide_eq_false (fun h => h1 h.1)]
    go_enter Tryd.func10, Tryd.ntmps10
    go_wp2_with fail
    go_ret
    exact ⟨rfl, by first | exact HB.out | simpa using HB.out⟩
theorem later_row (x : List Int) (hx : x.length = 5) (w : World) : Calls Tryd.prog 10 #[.agg (ints x).toArray] w fun e w' => e = .returned (.bool (isLat (x.getD 0 0))) ∧ Below w.heap.size w w' := by
  obtain ⟨k, a, n, p, q, rfl⟩ := row5 hx
  exact later_any k a n p q w
set_option maxRecDepth 100000 in
set_option maxHeartbeats 8000000 in
theorem want_any (code : Int) (good : Bool) (a : Option Addr) (n c : Nat) (L : List Int) (w : World) (hs : Sl w a n 5 (ints L)) (hn : n * 40 ≤ 140737488355328) :
    Calls Tryd.prog 14 #[.agg #[.int .i64 code, .slice a n c], .bool good] w fun e w' => ∃ v, e = .returned v ∧ w'.ownsRow w.heap.size 25 5 v (wantN code good L n) (ints (wantR code good L n)) ∧ Below w.heap.size w w' := by
  obtain ⟨i0, hi, hzz0, hzz1, hzz2⟩ := info_parts eff_info
  have hl : Hid (L.length = n * 5) := Lib.hid (by have := hs.1; rwa [ints_len] at this)
  have HB0 := Lib.hid ((Below.refl w.heap.size w).alloc (Nat.le_refl _) (.cells #[.int .i64 code, .slice a n c] 42))
  have HS := Lib.hid (fun w' (hb : Below w.heap.size w w') => hs.keep hb)
  have HN := Lib.hid hn
  clear hs hn
  by_cases h0 : code = 0
  · rw [show wantR code good L n = (if good then pickR isNow L n ++ pickR isLat L n else pickR isNow L n) from if_pos h0, show wantN code good L n = (if good then pickN isNow L n + pickN isLat L n else pickN isNow L n) from if_pos h0]
    have hcb : (code != 0) = false := by rw [h0]; rfl
    have GK : Hid (good = true ∨ good = false) := Lib.hid (by cases good <;> simp)
    obtain ⟨RR, hRR⟩ : ∃ RR, RR = (if good then pickR isNow L n ++ pickR isLat L n else pickR isNow L n) := ⟨_, rfl⟩
    obtain ⟨RN, hRN⟩ : ∃ RN, RN = (if good then pickN isNow L n + pickN isLat L n else pickN isNow L n) := ⟨_, rfl⟩
    rw [← hRR, ← hRN]
    have HRR := Lib.hid hRR
    have HRN := Lib.hid hRN
    clear h0 hRR hRN
    go_enter Tryd.func14, Tryd.ntmps14
    go_upto_region 5 with fail
    generalize w.alloc (.cells #[.int .i64 code, .slice a n c] 42) = W at *
    go_wp2_with fail
    clear hcb
    go_loopg [5, 6, 15] n (fun qq s5 s6 s15 wr => ∃ i : Nat, qq + i = n ∧ s15 = .int .i64 i ∧ Hid (Rows2 wr w.heap.size 25 5 s5 (pickN isNow L i) (ints (pickR isNow L i)) s6 (pickN isLat L i) (ints (pickR isLat L i))) ∧ Hid (Below w.heap.size w wr))
    case atStart => exact ⟨0, by omega, rfl, Lib.hid (Rows2.start _ _ _ _), HB0⟩
    case round =>
      obtain ⟨i, hqi, rfl, HR, HB⟩ := hrel
      by_cases hin0 : i < n
      · have hz0 : (0 : Int) ≤ i := by omega
        have hz1 : (i : Int) < n := by omega
        obtain ⟨bb, oo, rfl, hblt, rx0⟩ := rAt_at (HS.out wr HB.out) hin0
        have hnb : (n : Int) ≤ 3518437208883 := by have := HN.out; omega
        have HQ := Lib.hid (And.intro hqi (And.intro HN.out hin0))
        have HP := Lib.hid (pick_sum L i)
        have hxl : (rAt 5 L i).length = 5 := rAt_len hl.out hin0
        have HXE : Hid (rAt 5 L i = rAt 5 L i) := Lib.hid rfl
        have HKD := Lib.hid (kind_any ((rAt 5 L i).getD 0 0))
        have HLA := Lib.hid (later_row (rAt 5 L i) hxl)
        have LX : Hid ((ints (rAt 5 L i)).length = 5) := Lib.hid (by rw [ints_len]; exact hxl)
        have LX1 : Hid ((ints (rAt 5 L i)).length = 1 * 5) := Lib.hid (by rw [ints_len]; exact hxl)
        have K0 : Hid ((ints (rAt 5 L i))[0]? = some (.int .i64 ((rAt 5 L i).getD 0 0))) := Lib.hid (ints_get _ _ (by rw [hxl]; decide))
        obtain ⟨x, hx⟩ : ∃ x, x = rAt 5 L i := ⟨_, rfl⟩
        have HX := Lib.hid hx
        rw [← hx] at rx0 HKD HLA LX LX1 K0
        have TX : RowT 25 (ints x).length := by rw [LX.out]; exact eff_row
        have OX : Hid (∀ u ∈ ints x, u.oneCell' = true) := Lib.hid fun u hu => ints_one hu
        have A0 := Lib.hid (Blk.new wr (ints x).toArray 25)
        have HB1 := Lib.hid (HB.out.alloc HB.out.size (.cells (ints x).toArray 25))
        have HR1 := Lib.hid (HR.out.keep ((Below.refl _ _).alloc (Nat.le_refl _) (.cells (ints x).toArray 25)))
        rw [List.toList_toArray] at A0
        clear hqi hin0 hx hxl HXE HB HR HS
        obtain ⟨ky, hky⟩ : ∃ ky, ky = x.getD 0 0 := ⟨_, rfl⟩
        rw [← hky] at HKD HLA K0
        have HKY := Lib.hid hky
        clear hky
        go_upto_region 7 with (first
          | ((with_reducible refine ld_row rx0 TX ?_ ?_ ?_); (· rfl); (· rfl); (simp only [Act.put, List.setIfInBounds_toArray, List.set_cons_zero, List.set_cons_succ]))
          | ((with_reducible refine st_row_new (cs := ints x) TX OX.out ?_ ?_ ?_ ?_); (· first | rfl | simp); (· rfl); (· exact LX.out.symm); (simp only [Act.put, List.setIfInBounds_toArray, List.set_cons_zero, List.set_cons_succ])))
        have hz8 : Hid (wr.heap.size < (wr.alloc (.cells (ints x).toArray 25)).heap.size) := Lib.hid (by simp)
        clear rx0
        generalize hgx : wr.heap.size = gx at *
        generalize wr.alloc (.cells (ints x).toArray 25) = w1 at *
        clear hgx
        have rx := A0.out.range 0 (ints x) (by simp)
        have ca := A0.out.cell 0
        rw [K0.out] at ca
        have CA := Lib.hid ca
        clear ca
        rcases hlat : isLat ky with _ | _
        · rw [hlat] at HLA
          have HLT : Hid (isLat ((rAt 5 L i).getD 0 0) = false) := Lib.hid (by rw [← HX.out, ← HKY.out]; exact hlat)
          rcases hkn : isKnd ky with _ | _
          · rw [hkn] at HKD
            have HNW : Hid (isNow ((rAt 5 L i).getD 0 0) = false) := Lib.hid (by rw [← HX.out, ← HKY.out, isNow_of hlat]; exact hkn)
            clear hlat hkn
            go_wp2_with (first | ((with_reducible refine ld_row rx TX ?_ ?_ ?_); (· rfl); (· rfl); (simp only [Act.put, List.setIfInBounds_toArray, List.set_cons_zero, List.set_cons_succ])))
            refine (HLA.out _).mono ?_
            rintro e w2 ⟨rfl, hb⟩
            have HB2 := Lib.hid (HB1.out.trans (hb.mono HB1.out.size))
            have HR2 := Lib.hid (HR1.out.keep hb)
            have ca2 : w2.cell? ⟨gx, 0, none⟩ = some (.int .i64 ky) := (hb.cell (p := ⟨gx, 0, none⟩) hz8.out).trans CA.out
            clear hb HB1 HR1 rx CA
            go_wp2_with fail
            refine (HKD.out _).mono ?_
            rintro e w4 ⟨rfl, rfl⟩
            go_wp2_with fail
            go_roundg (gk - 1)
            case measure => have := HQ.out; omega
            case rel => exact ⟨i + 1, by have := HQ.out; omega, by go_num, by rw [(pick_no HLT.out).1, (pick_no HLT.out).2, (pick_no HNW.out).1, (pick_no HNW.out).2]; exact HR2, HB2⟩
          · rw [hkn] at HKD
            have HK : Hid (isNow ((rAt 5 L i).getD 0 0) = true) := Lib.hid (by rw [← HX.out, ← HKY.out, isNow_of hlat]; exact hkn)
            clear hlat hkn
            go_wp2_with (first | ((with_reducible refine ld_row rx TX ?_ ?_ ?_); (· rfl); (· rfl); (simp only [Act.put, List.setIfInBounds_toArray, List.set_cons_zero, List.set_cons_succ])))
            refine (HLA.out _).mono ?_
            rintro e w2 ⟨rfl, hb⟩
            have HB2 := Lib.hid (HB1.out.trans (hb.mono HB1.out.size))
            have HR2 := Lib.hid (HR1.out.keep hb)
            have rx2 := range_keepG rx hb hz8.out
            have ca2 : w2.cell? ⟨gx, 0, none⟩ = some (.int .i64 ky) := (hb.cell (p := ⟨gx, 0, none⟩) hz8.out).trans CA.out
            clear hb HB1 HR1 rx CA
            go_wp2_with fail
            refine (HKD.out _).mono ?_
            rintro e w4 ⟨rfl, rfl⟩
            have rx := rx2
            clear rx2 ca2
            have NEWS : Hid (∀ (j : Nat) (u : Value), (ints x)[j]? = some u → (w2.alloc (.cells (ints x).toArray 25)).cell? ((⟨w2.heap.size, 0, none⟩ : Addr).add j) = some u) := Lib.hid (fun j u hj => by
              rw [add_plain, Nat.zero_add, cell_of_row _ _ j _ _ _ (heap_alloc_new _ _)]
              simpa using hj)
            have HB3 := Lib.hid (HB2.out.alloc HB2.out.size (.cells (ints x).toArray 25))
            have HR3 := Lib.hid (HR2.out.keep ((Below.refl _ _).alloc (Nat.le_refl _) (.cells (ints x).toArray 25)))
            clear HB2 HR2
            go_upto_region 11 with (first
              | ((with_reducible refine ld_row rx TX ?_ ?_ ?_); (· rfl); (· rfl); (simp only [Act.put, List.setIfInBounds_toArray, List.set_cons_zero, List.set_cons_succ]))
              | ((with_reducible refine bs_oneG Tryd.underlying40 eff_whole (by decide) (by decide) ?_ LX ?_); (· rfl); (simp only [Act.put, List.setIfInBounds_toArray, List.set_cons_zero, List.set_cons_succ]))
              | (at_builtin; refine wpList_append_own_at _ rfl _ _ 40 rfl w.heap.size 25 i0 (.agg #[.int .i64 0, .int .i64 0, .int .i64 0, .int .i64 0, .int .i64 0]) 5 40 Tryd.underlying40 hi hzz0 hzz1 hzz2 rfl (by decide) _ (pickN isNow L i) _ rfl HR3.out.a ⟨w2.heap.size, 0, none⟩ 1 1 (ints x) rfl LX1.out NEWS.out (fun u hu => ints_one hu) ?c1 ?c2 HB3.out.size ?_))
            case c1 => simp only [maxLen]; have := HQ.out; have := HP.out; omega
            case c2 => have := HQ.out; have := HP.out; omega
            intro v6 w6 ho6 hg6 _ hv6'
            have hv6 : v6.ownBlock = u5.ownBlock ∨ v6.ownBlock = some (w2.alloc (.cells (ints x).toArray 25)).heap.size := by simpa using hv6'
            clear hv6'
            have HR6 := Lib.hid (HR3.out.app ho6 hg6 hv6)
            have HB6 := Lib.hid (Below.grown HB3.out hg6 HB3.out.size fun q hq => (HR3.out.a.lt q hq).1)
            rw [← ints_appG, HX.out, ← (pick_yes HK.out).1, ← (pick_yes HK.out).2, ← (pick_no HLT.out).1, ← (pick_no HLT.out).2] at HR6
            clear ho6 hg6 hv6 HR3 HB3 NEWS rx
            go_wp2_with fail
            go_roundg (gk - 1)
            case measure => have := HQ.out; omega
            case rel => exact ⟨i + 1, by have := HQ.out; omega, by go_num, HR6, HB6⟩
        · rw [hlat] at HLA
          have HLT : Hid (isLat ((rAt 5 L i).getD 0 0) = true) := Lib.hid (by rw [← HX.out, ← HKY.out]; exact hlat)
          have HNW : Hid (isNow ((rAt 5 L i).getD 0 0) = false) := Lib.hid (isNow_lat HLT.out)
          clear hlat
          go_wp2_with (first | ((with_reducible refine ld_row rx TX ?_ ?_ ?_); (· rfl); (· rfl); (simp only [Act.put, List.setIfInBounds_toArray, List.set_cons_zero, List.set_cons_succ])))
          refine (HLA.out _).mono ?_
          rintro e w2 ⟨rfl, hb⟩
          have HB2 := Lib.hid (HB1.out.trans (hb.mono HB1.out.size))
          have HR2 := Lib.hid (HR1.out.keep hb)
          have rx2 := range_keepG rx hb hz8.out
          clear hb HB1 HR1 rx CA
          have rx := rx2
          clear rx2
          have NEWS : Hid (∀ (j : Nat) (u : Value), (ints x)[j]? = some u → (w2.alloc (.cells (ints x).toArray 25)).cell? ((⟨w2.heap.size, 0, none⟩ : Addr).add j) = some u) := Lib.hid (fun j u hj => by
            rw [add_plain, Nat.zero_add, cell_of_row _ _ j _ _ _ (heap_alloc_new _ _)]
            simpa using hj)
          have HB3 := Lib.hid (HB2.out.alloc HB2.out.size (.cells (ints x).toArray 25))
          have HR3 := Lib.hid (HR2.out.keep ((Below.refl _ _).alloc (Nat.le_refl _) (.cells (ints x).toArray 25)))
          clear HB2 HR2
          go_upto_region 11 with (first
            | ((with_reducible refine ld_row rx TX ?_ ?_ ?_); (· rfl); (· rfl); (simp only [Act.put, List.setIfInBounds_toArray, List.set_cons_zero, List.set_cons_succ]))
            | ((with_reducible refine bs_oneG Tryd.underlying40 eff_whole (by decide) (by decide) ?_ LX ?_); (· rfl); (simp only [Act.put, List.setIfInBounds_toArray, List.set_cons_zero, List.set_cons_succ]))
            | (at_builtin; refine wpList_append_own_at _ rfl _ _ 40 rfl w.heap.size 25 i0 (.agg #[.int .i64 0, .int .i64 0, .int .i64 0, .int .i64 0, .int .i64 0]) 5 40 Tryd.underlying40 hi hzz0 hzz1 hzz2 rfl (by decide) _ (pickN isLat L i) _ rfl HR3.out.b ⟨w2.heap.size, 0, none⟩ 1 1 (ints x) rfl LX1.out NEWS.out (fun u hu => ints_one hu) ?c1 ?c2 HB3.out.size ?_))
          case c1 => simp only [maxLen]; have := HQ.out; have := HP.out; omega
          case c2 => have := HQ.out; have := HP.out; omega
          intro v6 w6 ho6 hg6 _ hv6'
          have hv6 : v6.ownBlock = u6.ownBlock ∨ v6.ownBlock = some (w2.alloc (.cells (ints x).toArray 25)).heap.size := by simpa using hv6'
          clear hv6'
          have HR6 := Lib.hid (HR3.out.swap.app ho6 hg6 hv6).swap
          have HB6 := Lib.hid (Below.grown HB3.out hg6 HB3.out.size fun q hq => (HR3.out.b.lt q hq).1)
          rw [← ints_appG, HX.out, ← (pick_yes HLT.out).1, ← (pick_yes HLT.out).2, ← (pick_no HNW.out).1, ← (pick_no HNW.out).2] at HR6
          clear ho6 hg6 hv6 HR3 HB3 NEWS rx
          go_wp2_with fail
          go_roundg (gk - 1)
          case measure => have := HQ.out; omega
          case rel => exact ⟨i + 1, by have := HQ.out; omega, by go_num, HR6, HB6⟩
      · have hik : i = n := by omega
        rw [hik] at HR
        have HLEN1 := Lib.hid (pick_len (p := isLat) hl.out n (Nat.le_refl _))
        have HSUM := Lib.hid (And.intro (pick_sum L n) HN.out)
        have hin1 : ¬ (i : Int) < n := by omega
        clear hqi hik hin0 HS
        rcases GK.out with hg | hg
        · subst hg
          obtain ⟨v2, c2, rfl, hc2a, hc2b, hs2⟩ := Sl.own HR.out.b
          have HS2 := Lib.hid hs2
          clear hs2 hc2b
          have HNIL : Hid (v2 = none → c2 = 0) := Lib.hid (fun e => by
            subst e
            rcases HR.out.b.2 with ⟨h, _⟩ | ⟨g, cap, cur, h, _⟩
            · injection h with _ _ h3
            · injection h with h1
              cases h1)
          clear hc2a
          go_upto_region 14 with (first
            | (at_builtin; refine app_any _ _ 40 25 i0 (.agg #[.int .i64 0, .int .i64 0, .int .i64 0, .int .i64 0, .int .i64 0]) 5 40 Tryd.underlying40 hi hzz0 hzz1 hzz2 rfl (by decide) rfl rfl rfl HR.out.a rfl HS2.out HNIL.out (fun u hu => ints_one hu) ?c1 ?c2 HB.out.size ?_))
          case c1 => simp only [maxLen]; have := HSUM.out; omega
          case c2 => have := HSUM.out; omega
          intro v6 w6 ho6 hb6
          rw [← ints_appG] at ho6
          have HO6 := Lib.hid ho6
          have HB6 := Lib.hid (HB.out.trans hb6)
          clear ho6 hb6 HR HB HS2
          go_wp2_with fail
          go_ret
          rw [HRR.out, HRN.out]
          exact ⟨_, rfl, HO6.out, HB6.out⟩
        · subst hg
          go_wp2_with fail
          go_ret
          rw [HRR.out, HRN.out]
          exact ⟨_, rfl, HR.out.a, HB.out⟩
  · rw [show wantR code good L n = [] from if_neg h0, show wantN code good L n = 0 from if_neg h0]
    have hcb : (code != 0) = true := by simpa using h0
    clear h0
    go_enter Tryd.func14, Tryd.ntmps14
    go_wp2_with fail
    go_ret
    exact ⟨_, rfl, World.ownsRow_nil _ _ _ _, by first | exact HB0.out | simpa using HB0.out⟩
end Go.Proofs.YteebmpbplenikaaDoor
