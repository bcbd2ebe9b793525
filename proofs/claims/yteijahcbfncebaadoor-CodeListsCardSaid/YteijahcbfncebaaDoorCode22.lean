/- Steps' octets, one behind the other. -/
import Derived.Test.YteijahcbfncebaaDoorCode21
import Derived.Test.YteijahcbfncebaaDoorRws
import Derived.Deep.DeepCutAuto
import Derived.Deep.LoopGhost
import Derived.RegionTactic
import Derived.BigRegion
import Derived.ChangeAlike
namespace Go.Proofs.YteijahcbfncebaaDoor
set_option linter.unusedVariables false
set_option linter.unusedSimpArgs false
open Go.ChangeShapes Go.WideShapes Go.ChangeAt Go.RowKit
/-- which error a step has, its octets. -/
def chkX (x : List Int) : Int := chkS (x.getD 0 0) (x.getD 1 0) (x.getD 2 0) (x.getD 3 0) (x.getD 4 0) (x.getD 5 0) (x.getD 6 0) (x.getD 7 0) (x.getD 8 0) (x.getD 9 0) (x.getD 10 0) (x.getD 11 0) (x.getD 12 0)
def encX (x : List Int) : List UInt8 := encS (x.getD 0 0) (x.getD 1 0) (x.getD 2 0) (x.getD 3 0) (x.getD 7 0) (x.getD 8 0) (x.getD 9 0) (x.getD 10 0) (x.getD 11 0) (x.getD 12 0)
theorem encX_len (x : List Int) : (encX x).length = 21 := by unfold encX encS; simp [beOf_len]
def encXs (L : List Int) : Nat → List UInt8
  | 0 => []
  | k + 1 => encXs L k ++ encX (rAt 13 L k)
theorem encXs_len (L : List Int) : ∀ k, (encXs L k).length = 21 * k
  | 0 => rfl
  | k + 1 => by rw [encXs, List.length_append, encXs_len L k, encX_len]; omega
theorem row13 {x : List Int} (h : x.length = 13) : ∃ k r i n i1 i2 t ck a b cn p q : Int, x = [k, r, i, n, i1, i2, t, ck, a, b, cn, p, q] := by
  match x, h with
  | [k, r, i, n, i1, i2, t, ck, a, b, cn, p, q], _ => exact ⟨k, r, i, n, i1, i2, t, ck, a, b, cn, p, q, rfl⟩
theorem chkx_any (x : List Int) (w : World) (hx : x.length = 13) (hf : ∀ z ∈ x, fits z = true) (hT : TabF w) : Calls Tryd.prog 10 #[.agg (ints x).toArray] w fun e w' => e = .returned (.int .i64 (chkX x)) ∧ Below w.heap.size w w' := by
  obtain ⟨k, r, i, n, i1, i2, t, ck, a, b, cn, p, q, rfl⟩ := row13 hx
  exact chk31_any k r i n i1 i2 t ck a b cn p q w (Lib.hid hf) (Lib.hid hT) (glob_lt hT)
theorem rchkx_any (x : List Int) (w : World) (hx : x.length = 13) (hf : ∀ z ∈ x, fits z = true) : Calls Tryd.prog 8 #[.agg (ints x).toArray] w fun e w' => e = .returned (.int .i64 (chkX x)) ∧ Below w.heap.size w w' := by
  obtain ⟨k, r, i, n, i1, i2, t, ck, a, b, cn, p, q, rfl⟩ := row13 hx
  exact rchk31_any k r i n i1 i2 t ck a b cn p q w (Lib.hid hf)
theorem putx_yes (x : List Int) (w : World) (hx : x.length = 13) (hf : ∀ z ∈ x, fits z = true) (hT : TabF w) (hc : chkX x = 0) : Calls Tryd.prog 9 #[.agg (ints x).toArray] w fun e w' => ∃ a' c', e = .returned (.tuple #[.slice a' 21 c', .int .i64 0]) ∧ Sl w' a' 21 1 (bcells (encX x)) ∧ Below w.heap.size w w' := by
  have K := fun w' (hb : Below w.heap.size w w') => chkx_any x w' hx hf (hT.keep hb (glob_lt hT))
  rw [hc] at K
  obtain ⟨k, r, i, n, i1, i2, t, ck, a, b, cn, p, q, rfl⟩ := row13 hx
  exact put31_yes k r i n i1 i2 t ck a b cn p q w (Lib.hid K)
theorem putx_no (x : List Int) (w : World) (hx : x.length = 13) (hf : ∀ z ∈ x, fits z = true) (hT : TabF w) (hc : chkX x ≠ 0) : Calls Tryd.prog 9 #[.agg (ints x).toArray] w fun e w' => e = .returned (.tuple #[.slice none 0 0, .int .i64 (chkX x)]) ∧ Below w.heap.size w w' := by
  have K := fun w' (hb : Below w.heap.size w w') => chkx_any x w' hx hf (hT.keep hb (glob_lt hT))
  obtain ⟨k, r, i, n, i1, i2, t, ck, a, b, cn, p, q, rfl⟩ := row13 hx
  exact put31_no k r i n i1 i2 t ck a b cn p q hc w (Lib.hid K)
theorem rputx_any (x : List Int) (w : World) (hx : x.length = 13) : Calls Tryd.prog 12 #[.agg (ints x).toArray] w fun e w' => ∃ a' c', e = .returned (.slice a' 21 c') ∧ Sl w' a' 21 1 (bcells (encX x)) ∧ Below w.heap.size w w' := by
  obtain ⟨k, r, i, n, i1, i2, t, ck, a, b, cn, p, q, rfl⟩ := row13 hx
  exact rput31_any k r i n i1 i2 t ck a b cn p q w
set_option maxRecDepth 100000 in
set_option maxHeartbeats 8000000 in
theorem all31_yes (a : Option Addr) (n c : Nat) (L : List Int) (w : World) (hs : Sl w a n 13 (ints L)) (hf : ∀ z ∈ L, fits z = true) (hT : TabF w) (hn : n ≤ 256) (hok : ∀ i, i < n → chkX (rAt 13 L i) = 0) :
    Calls Tryd.prog 15 #[.slice a n c] w fun e w' => ∃ a' c', e = .returned (.tuple #[.slice a' (21 * n) c', .int .i64 0]) ∧ Sl w' a' (21 * n) 1 (bcells (encXs L n)) ∧ (21 * n ≤ c' ∧ c' ≤ 9223372036854775807) ∧ Below w.heap.size w w' := by
  obtain ⟨i0, hi, hz0, hz1, hz2⟩ := info_parts u8_info
  have hl : Hid (L.length = n * 13) := Lib.hid (by have := hs.1; rwa [ints_len] at this)
  have HS := Lib.hid hs
  have HF := Lib.hid hf
  have HT := Lib.hid (fun w' (hb : Below w.heap.size w w') => hT.keep hb (glob_lt hT))
  have HOK := Lib.hid hok
  have hn48 : ¬ (256 : Int) < n := by omega
  clear hs hok hf hT
  skip
  go_enter Tryd.func15, Tryd.ntmps15
  go_wp2_with fail
  go_loopg [4, 14] n (fun qq s4 s14 wr => ∃ i : Nat, qq + i = n ∧ s14 = .int .i64 i ∧ Hid (wr.ownsRow w.heap.size 5 1 s4 (21 * i) (bcells (encXs L i))) ∧ Hid (Below w.heap.size w wr))
  case atStart => exact ⟨0, by omega, rfl, Lib.hid (World.ownsRow_nil _ _ _ _), Lib.hid (Below.refl _ _)⟩
  case round =>
    obtain ⟨i, hqi, rfl, HO, HB⟩ := hrel
    by_cases hin0 : i < n
    · obtain ⟨b, off, rfl, hb, hr0⟩ := rAt_at HS.out (show i < n by omega)
      have LI13 : Hid ((rAt 13 L i).length = 13) := Lib.hid (rAt_len hl.out (show i < n by omega))
      have FI : Hid (∀ z ∈ rAt 13 L i, fits z = true) := Lib.hid fun z hz => HF.out z (rAt_mem hz)
      have rr := range_keepG hr0 HB.out hb
      have hi0 : (0 : Int) ≤ i := by omega
      have hin : (i : Int) < n := by omega
      have PP := Lib.hid (fun w' (hb' : Below w.heap.size w w') => putx_yes (rAt 13 L i) w' LI13.out FI.out (HT.out w' hb') (HOK.out i hin0))
      have HEN := Lib.hid (show encXs L (i + 1) = encXs L i ++ encX (rAt 13 L i) from rfl)
      have HL := Lib.hid (encXs_len L i)
      clear hr0
      generalize rAt 13 L i = x at *
      have TX : RowT 27 (ints x).length := by rw [ints_len, LI13.out]; exact rowS
      have OX : Hid (∀ u ∈ ints x, u.oneCell' = true) := Lib.hid fun u hu => ints_one hu
      have LX : Hid ((ints x).length = 13) := Lib.hid (by rw [ints_len, LI13.out])
      have A := Lib.hid (Blk.new wr (ints x).toArray 27)
      have HB2 := Lib.hid (HB.out.alloc HB.out.size (.cells (ints x).toArray 27))
      have HO2 := Lib.hid (own_stay HO.out ((Below.refl _ _).alloc (Nat.le_refl _) (.cells (ints x).toArray 27)))
      rw [List.toList_toArray] at A
      go_upto_region 7 with (first
        | ((with_reducible refine ld_row rr TX ?_ ?_ ?_); (· rfl); (· rfl); (simp only [Act.put, List.setIfInBounds_toArray, List.set_cons_zero, List.set_cons_succ]))
        | ((with_reducible refine st_row_new (cs := ints x) TX OX.out ?_ ?_ ?_ ?_); (· first | rfl | simp); (· rfl); (· exact LX.out.symm); (simp only [Act.put, List.setIfInBounds_toArray, List.set_cons_zero, List.set_cons_succ])))
      have rx : (wr.alloc (.cells (ints x).toArray 27)).rangeAt wr.heap.size 0 (ints x) := A.out.range 0 _ (by simp)
      have hzw : w.heap.size ≤ (wr.alloc (.cells (ints x).toArray 27)).heap.size := HB2.out.size
      have P := Lib.hid (PP.out (wr.alloc (.cells (ints x).toArray 27)) HB2.out)
      generalize hgx : wr.heap.size = gx at *
      generalize wr.alloc (.cells (ints x).toArray 27) = w3 at *
      clear hgx A rr PP
      go_wp2_with (first
        | ((with_reducible refine ld_row rx TX ?_ ?_ ?_); (· rfl); (· rfl); (simp only [Act.put, List.setIfInBounds_toArray, List.set_cons_zero, List.set_cons_succ])))
      refine P.out.mono ?_
      rintro e w4 ⟨a', c', rfl, hsb, hb4⟩
      have HB4 := Lib.hid (HB2.out.trans (hb4.mono HB2.out.size))
      have HO4 := Lib.hid (own_stay HO2.out hb4)
      have HSB := Lib.hid hsb
      have hnl : a' = none → c' = 0 := fun h0 => by
        rcases hsb.2 with h1 | ⟨b1, o1, h1, _⟩
        · omega
        · rw [h0] at h1; cases h1
      clear hsb hb4 HO2 HB2 rx P
      have hxl : (bcells (encX x)).length = 21 := by rw [bcells_len, encX_len]
      go_wp2_with (first
        | (at_builtin; refine app_any _ _ 30 5 i0 (.int .u8 0) 1 1 Tryd.underlying30 hi hz0 hz1 hz2 rfl (by decide) rfl rfl rfl HO4.out rfl HSB.out hnl (fun u hu => bcells_one hu) ?c1 ?c2 HB4.out.size ?_))
      case c1 => simp only [maxLen]; omega
      case c2 => omega
      intro v5 w5 ho5 hb5
      rw [← bcells_add, ← HEN.out, show 21 * i + 21 = 21 * (i + 1) by omega] at ho5
      have HO5 := Lib.hid ho5
      have HB5 := Lib.hid (HB4.out.trans hb5)
      clear ho5 hb5 HO4 HSB
      go_wp2_with fail
      go_roundg (gk - 1)
      case measure => omega
      case rel => exact ⟨i + 1, by omega, by go_num, HO5, HB5⟩
    · have hni : (n : Int) ≤ i := by omega
      have hin : i = n := by omega
      rw [hin] at HO
      obtain ⟨xa, xc, rfl, hxa, hxc, hxs⟩ := Sl.own HO.out
      have hxc' : xc ≤ 9223372036854775807 := by simpa [maxLen] using hxc
      have HXQ := Lib.hid (And.intro hxa hxc')
      clear hxa hxc hxc'
      go_wp2_with fail
      go_ret2
      exact ⟨xa, xc, rfl, hxs, HXQ.out, HB.out⟩
set_option maxRecDepth 100000 in
set_option maxHeartbeats 8000000 in
theorem all31_no (a : Option Addr) (n c : Nat) (L : List Int) (w : World) (hs : Sl w a n 13 (ints L)) (hf : ∀ z ∈ L, fits z = true) (hT : TabF w) (hn : n ≤ 256) (j : Nat) (hj : j < n) (hok : ∀ i, i < j → chkX (rAt 13 L i) = 0) (hno : chkX (rAt 13 L j) ≠ 0) :
    Calls Tryd.prog 15 #[.slice a n c] w fun e w' => e = .returned (.tuple #[.slice none 0 0, .int .i64 (chkX (rAt 13 L j))]) ∧ Below w.heap.size w w' := by
  obtain ⟨i0, hi, hz0, hz1, hz2⟩ := info_parts u8_info
  have hl : Hid (L.length = n * 13) := Lib.hid (by have := hs.1; rwa [ints_len] at this)
  have HS := Lib.hid hs
  have HF := Lib.hid hf
  have HT := Lib.hid (fun w' (hb : Below w.heap.size w w') => hT.keep hb (glob_lt hT))
  have HOK := Lib.hid hok
  have hn48 : ¬ (256 : Int) < n := by omega
  clear hs hok hf hT
  have HNO := Lib.hid hno; clear hno
  go_enter Tryd.func15, Tryd.ntmps15
  go_wp2_with fail
  go_loopg [4, 14] j (fun qq s4 s14 wr => ∃ i : Nat, qq + i = j ∧ s14 = .int .i64 i ∧ Hid (wr.ownsRow w.heap.size 5 1 s4 (21 * i) (bcells (encXs L i))) ∧ Hid (Below w.heap.size w wr))
  case atStart => exact ⟨0, by omega, rfl, Lib.hid (World.ownsRow_nil _ _ _ _), Lib.hid (Below.refl _ _)⟩
  case round =>
    obtain ⟨i, hqi, rfl, HO, HB⟩ := hrel
    by_cases hin0 : i < j
    · obtain ⟨b, off, rfl, hb, hr0⟩ := rAt_at HS.out (show i < n by omega)
      have LI13 : Hid ((rAt 13 L i).length = 13) := Lib.hid (rAt_len hl.out (show i < n by omega))
      have FI : Hid (∀ z ∈ rAt 13 L i, fits z = true) := Lib.hid fun z hz => HF.out z (rAt_mem hz)
      have rr := range_keepG hr0 HB.out hb
      have hi0 : (0 : Int) ≤ i := by omega
      have hin : (i : Int) < n := by omega
      have PP := Lib.hid (fun w' (hb' : Below w.heap.size w w') => putx_yes (rAt 13 L i) w' LI13.out FI.out (HT.out w' hb') (HOK.out i hin0))
      have HEN := Lib.hid (show encXs L (i + 1) = encXs L i ++ encX (rAt 13 L i) from rfl)
      have HL := Lib.hid (encXs_len L i)
      clear hr0
      generalize rAt 13 L i = x at *
      have TX : RowT 27 (ints x).length := by rw [ints_len, LI13.out]; exact rowS
      have OX : Hid (∀ u ∈ ints x, u.oneCell' = true) := Lib.hid fun u hu => ints_one hu
      have LX : Hid ((ints x).length = 13) := Lib.hid (by rw [ints_len, LI13.out])
      have A := Lib.hid (Blk.new wr (ints x).toArray 27)
      have HB2 := Lib.hid (HB.out.alloc HB.out.size (.cells (ints x).toArray 27))
      have HO2 := Lib.hid (own_stay HO.out ((Below.refl _ _).alloc (Nat.le_refl _) (.cells (ints x).toArray 27)))
      rw [List.toList_toArray] at A
      go_upto_region 7 with (first
        | ((with_reducible refine ld_row rr TX ?_ ?_ ?_); (· rfl); (· rfl); (simp only [Act.put, List.setIfInBounds_toArray, List.set_cons_zero, List.set_cons_succ]))
        | ((with_reducible refine st_row_new (cs := ints x) TX OX.out ?_ ?_ ?_ ?_); (· first | rfl | simp); (· rfl); (· exact LX.out.symm); (simp only [Act.put, List.setIfInBounds_toArray, List.set_cons_zero, List.set_cons_succ])))
      have rx : (wr.alloc (.cells (ints x).toArray 27)).rangeAt wr.heap.size 0 (ints x) := A.out.range 0 _ (by simp)
      have hzw : w.heap.size ≤ (wr.alloc (.cells (ints x).toArray 27)).heap.size := HB2.out.size
      have P := Lib.hid (PP.out (wr.alloc (.cells (ints x).toArray 27)) HB2.out)
      generalize hgx : wr.heap.size = gx at *
      generalize wr.alloc (.cells (ints x).toArray 27) = w3 at *
      clear hgx A rr PP
      go_wp2_with (first
        | ((with_reducible refine ld_row rx TX ?_ ?_ ?_); (· rfl); (· rfl); (simp only [Act.put, List.setIfInBounds_toArray, List.set_cons_zero, List.set_cons_succ])))
      refine P.out.mono ?_
      rintro e w4 ⟨a', c', rfl, hsb, hb4⟩
      have HB4 := Lib.hid (HB2.out.trans (hb4.mono HB2.out.size))
      have HO4 := Lib.hid (own_stay HO2.out hb4)
      have HSB := Lib.hid hsb
      have hnl : a' = none → c' = 0 := fun h0 => by
        rcases hsb.2 with h1 | ⟨b1, o1, h1, _⟩
        · omega
        · rw [h0] at h1; cases h1
      clear hsb hb4 HO2 HB2 rx P
      have hxl : (bcells (encX x)).length = 21 := by rw [bcells_len, encX_len]
      go_wp2_with (first
        | (at_builtin; refine app_any _ _ 30 5 i0 (.int .u8 0) 1 1 Tryd.underlying30 hi hz0 hz1 hz2 rfl (by decide) rfl rfl rfl HO4.out rfl HSB.out hnl (fun u hu => bcells_one hu) ?c1 ?c2 HB4.out.size ?_))
      case c1 => simp only [maxLen]; omega
      case c2 => omega
      intro v5 w5 ho5 hb5
      rw [← bcells_add, ← HEN.out, show 21 * i + 21 = 21 * (i + 1) by omega] at ho5
      have HO5 := Lib.hid ho5
      have HB5 := Lib.hid (HB4.out.trans hb5)
      clear ho5 hb5 HO4 HSB
      go_wp2_with fail
      go_roundg (gk - 1)
      case measure => omega
      case rel => exact ⟨i + 1, by omega, by go_num, HO5, HB5⟩
    · have hij : i = j := by omega
      subst hij
      obtain ⟨b, off, rfl, hb, hr0⟩ := rAt_at HS.out hj
      have LI13 : Hid ((rAt 13 L i).length = 13) := Lib.hid (rAt_len hl.out hj)
      have FI : Hid (∀ z ∈ rAt 13 L i, fits z = true) := Lib.hid fun z hz => HF.out z (rAt_mem hz)
      have rr := range_keepG hr0 HB.out hb
      have hi0 : (0 : Int) ≤ i := by omega
      have hin : (i : Int) < n := by omega
      have PP := Lib.hid (fun w' (hb' : Below w.heap.size w w') => putx_no (rAt 13 L i) w' LI13.out FI.out (HT.out w' hb') HNO.out)
      have hcb : (chkX (rAt 13 L i) != 0) = true := by simpa using HNO.out
      clear hr0 HNO
      obtain ⟨code, hcode⟩ : ∃ code, code = chkX (rAt 13 L i) := ⟨_, rfl⟩
      have EC := Lib.hid hcode
      rw [← hcode] at PP hcb
      obtain ⟨x, hx⟩ : ∃ x, x = rAt 13 L i := ⟨_, rfl⟩
      rw [← hx] at LI13 FI rr PP
      clear hcode hx
      have TX : RowT 27 (ints x).length := by rw [ints_len, LI13.out]; exact rowS
      have OX : Hid (∀ u ∈ ints x, u.oneCell' = true) := Lib.hid fun u hu => ints_one hu
      have LX : Hid ((ints x).length = 13) := Lib.hid (by rw [ints_len, LI13.out])
      have A := Lib.hid (Blk.new wr (ints x).toArray 27)
      have HB2 := Lib.hid (HB.out.alloc HB.out.size (.cells (ints x).toArray 27))
      have HO2 := Lib.hid (own_stay HO.out ((Below.refl _ _).alloc (Nat.le_refl _) (.cells (ints x).toArray 27)))
      rw [List.toList_toArray] at A
      go_upto_region 7 with (first
        | ((with_reducible refine ld_row rr TX ?_ ?_ ?_); (· rfl); (· rfl); (simp only [Act.put, List.setIfInBounds_toArray, List.set_cons_zero, List.set_cons_succ]))
        | ((with_reducible refine st_row_new (cs := ints x) TX OX.out ?_ ?_ ?_ ?_); (· first | rfl | simp); (· rfl); (· exact LX.out.symm); (simp only [Act.put, List.setIfInBounds_toArray, List.set_cons_zero, List.set_cons_succ])))
      have rx : (wr.alloc (.cells (ints x).toArray 27)).rangeAt wr.heap.size 0 (ints x) := A.out.range 0 _ (by simp)
      have hzw : w.heap.size ≤ (wr.alloc (.cells (ints x).toArray 27)).heap.size := HB2.out.size
      have P := Lib.hid (PP.out (wr.alloc (.cells (ints x).toArray 27)) HB2.out)
      generalize hgx : wr.heap.size = gx at *
      generalize wr.alloc (.cells (ints x).toArray 27) = w3 at *
      clear hgx A rr PP
      go_wp2_with (first
        | ((with_reducible refine ld_row rx TX ?_ ?_ ?_); (· rfl); (· rfl); (simp only [Act.put, List.setIfInBounds_toArray, List.set_cons_zero, List.set_cons_succ])))
      refine P.out.mono ?_
      rintro e w4 ⟨rfl, hb4⟩
      go_wp2_with fail
      go_ret2
      exact ⟨by rw [← EC.out]; rfl, HB2.out.trans (hb4.mono HB2.out.size)⟩
theorem all31_long (a : Option Addr) (n c : Nat) (w : World) (hn : 256 < n) : Calls Tryd.prog 15 #[.slice a n c] w fun e w' => e = .returned (.tuple #[.slice none 0 0, .int .i64 3]) ∧ w' = w := by
  have hn48 : (256 : Int) < n := by omega
  go_enter Tryd.func15, Tryd.ntmps15
  go_wp2_with fail
  go_ret2
  exact ⟨rfl, rfl⟩
end Go.Proofs.YteijahcbfncebaaDoor
