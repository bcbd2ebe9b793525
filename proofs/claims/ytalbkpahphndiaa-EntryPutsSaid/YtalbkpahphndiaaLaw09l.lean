/- Lists of changes as octets. -/
import Derived.Test.YtalbkpahphndiaaChg8
import Derived.Test.YtalbkpahphndiaaChg6
import Derived.Test.YtalbkpahphndiaaVec2
import Derived.Test.YtalbkpahphndiaaLaw09
import Derived.Deep.LoopGhost
import Derived.Test.YtalbkpahphndiaaChg4
import Derived.Test.YtalbkpahphndiaaMath9
import Derived.Test.YtalbkpahphndiaaChgEq
import Derived.Test.YtalbkpahphndiaaLaw02
import Derived.Test.YtalbkpahphndiaaHeld
import Derived.Test.YtalbkpahphndiaaRd
import Derived.Test.YtalbkpahphndiaaOct
import Derived.Test.YtalbkpahphndiaaApp
import Derived.Test.YtalbkpahphndiaaRow
import Derived.Test.YtalbkpahphndiaaOps
import Derived.RegionTactic
import Derived.BigRegion
import Derived.ChangeAlike
namespace Go.Proofs.Ytalbkpahphndiaa
set_option linter.unusedVariables false
set_option linter.unusedSimpArgs false
open Go.ChangeShapes Go.WideShapes Go.ChangeAt Go.RowKit
def encC (x : List Int) : List UInt8 := encOf (x.getD 0 0) (x.getD 1 0) (x.getD 2 0) (x.getD 3 0) (x.getD 4 0) (x.getD 5 0) (x.getD 6 0) (x.getD 7 0) (x.getD 8 0)
def mayC (x : List Int) : Bool := mayChg (x.getD 0 0) (x.getD 1 0) (x.getD 2 0) (x.getD 3 0) (x.getD 4 0) (x.getD 5 0) (x.getD 7 0) (x.getD 8 0)
theorem encC_len (x : List Int) : (encC x).length = 22 := encOf_len _ _ _ _ _ _ _ _ _
def encTo (L : List Int) : Nat → List UInt8
  | 0 => []
  | k + 1 => encTo L k ++ encC (chAt L k)
theorem encTo_len (L : List Int) : ∀ k, (encTo L k).length = 22 * k
  | 0 => rfl
  | k + 1 => by rw [encTo, List.length_append, encTo_len L k, encC_len]; omega
theorem cputx_yes (x : List Int) (w : World) (hx : x.length = 9) (hm : mayC x = true) :
    Calls Try.prog 10 #[.agg (ints x).toArray] w fun e w' => ∃ a' c', e = .returned (.tuple #[.slice a' 22 c', .int .i64 0]) ∧ Sl w' a' 22 1 (bcells (encC x)) ∧ Below w.heap.size w w' := by
  match x, hx with
  | [r, s, t, k, a, b, n, p, q], _ => exact cput_yes r s t k a b n p q w hm
theorem cputx_no (x : List Int) (w : World) (hx : x.length = 9) (hm : mayC x = false) :
    Calls Try.prog 10 #[.agg (ints x).toArray] w fun e w' => e = .returned (.tuple #[.slice none 0 0, .int .i64 4]) ∧ Below w.heap.size w w' := by
  match x, hx with
  | [r, s, t, k, a, b, n, p, q], _ => exact cput_no r s t k a b n p q w hm
theorem own_lit (w : World) (vs : List Value) (hv : vs.length ≤ 1000) : (w.alloc (.cells vs.toArray 5)).ownsRow w.heap.size 5 1 (.slice (some ⟨w.heap.size, 0, none⟩) vs.length vs.length) vs.length vs :=
  ⟨by omega, Or.inr ⟨w.heap.size, vs.length, vs.toArray, rfl, Nat.le_refl _, heap_alloc_new _ _, Nat.le_refl _, by simp only [maxLen]; omega, by simp, by simp⟩⟩
theorem u8_lit (n : Nat) (h : n < 256) : bcells [UInt8.ofNat n] = [.int .u8 (n : Int)] := by
  have h1 : (UInt8.ofNat n).toNat = n := by rw [UInt8.toNat_ofNat']; omega
  simp [bcells, h1]
set_option maxRecDepth 100000 in
set_option maxHeartbeats 8000000 in
theorem all_yes (a : Option Addr) (n c : Nat) (L : List Int) (w : World) (hs : Sl w a n 9 (ints L)) (hn : n ≤ 48) (hok : ∀ i, i < n → mayC (chAt L i) = true) :
    Calls Try.prog 17 #[.slice a n c] w fun e w' => ∃ a' c', e = .returned (.tuple #[.slice a' (1 + 22 * n) c', .int .i64 0]) ∧ Sl w' a' (1 + 22 * n) 1 (bcells (UInt8.ofNat n :: encTo L n)) ∧ (1 + 22 * n ≤ c' ∧ c' ≤ 9223372036854775807) ∧ Below w.heap.size w w' := by
  obtain ⟨i0, hi, hz0, hz1, hz2⟩ := info_parts u8_info
  have hl : Hid (L.length = n * 9) := Lib.hid (by have := hs.1; rwa [ints_len] at this)
  have HS := Lib.hid hs
  have HOK := Lib.hid hok
  have hn48 : ¬ (48 : Int) < n := by omega
  have HO00 := own_lit w [.int .u8 (n : Int)] (by simp)
  have hlit := u8_lit n (by omega)
  rw [← hlit] at HO00
  have HO0 : Hid ((w.alloc (.cells #[.int .u8 (n : Int)] 5)).ownsRow w.heap.size 5 1 (.slice (some ⟨w.heap.size, 0, none⟩) 1 1) 1 (bcells [UInt8.ofNat n])) := Lib.hid (by rw [hlit]; exact own_lit w [.int .u8 (n : Int)] (by simp))
  have HB0 := Lib.hid ((Below.refl w.heap.size w).alloc (Nat.le_refl _) (.cells #[.int .u8 (n : Int)] 5))
  clear HO00 hlit
  clear hs hok
  skip
  go_enter Try.func17, Try.ntmps17
  go_upto_region 4 with fail
  generalize w.alloc (.cells #[.int .u8 (n : Int)] 5) = W at *
  go_wp2_with fail
  go_loopg [4, 18] n (fun qq s4 s18 wr => ∃ i : Nat, qq + i = n ∧ s18 = .int .i64 i ∧ Hid (wr.ownsRow w.heap.size 5 1 s4 (1 + 22 * i) (bcells (UInt8.ofNat n :: encTo L i))) ∧ Hid (Below w.heap.size w wr))
  case atStart => exact ⟨0, by omega, rfl, HO0, HB0⟩
  case round =>
    obtain ⟨i, hqi, rfl, HO, HB⟩ := hrel
    by_cases hin0 : i < n
    · obtain ⟨b, off, rfl, hb, hr0⟩ := chAt_at HS.out (show i < n by omega)
      have h9 : Hid ((chAt L i).length = 9) := Lib.hid (chAt_len hl.out (by omega))
      have rr := range_keep hr0 HB.out hb
      have hi0 : (0 : Int) ≤ i := by omega
      have hin : (i : Int) < n := by omega
      have hmay := HOK.out i hin0
      have P := Lib.hid (fun w => cputx_yes (chAt L i) w h9.out hmay)
      have hen : encTo L (i + 1) = encTo L i ++ encC (chAt L i) := rfl
      have HEN := Lib.hid hen
      have HL := Lib.hid (encTo_len L i)
      clear hr0 hmay hen
      generalize chAt L i = x at *
      have A := Lib.hid (Blk.new wr (ints x).toArray 25)
      have HB2 := Lib.hid (HB.out.alloc HB.out.size (.cells (ints x).toArray 25))
      have HO2 := Lib.hid (own_stay HO.out ((Below.refl _ _).alloc (Nat.le_refl _) (.cells (ints x).toArray 25)))
      rw [List.toList_toArray] at A
      go_upto_region 7 with (first
        | ((with_reducible apply chg_load); (· rfl); (· (first | assumption)); (· assumption); (simp only [Act.put, List.setIfInBounds_toArray, List.set_cons_zero, List.set_cons_succ]))
        | ((with_reducible apply chg_store_new); (· rfl); (· first | rfl | simp); (· rfl); (· rfl); (· assumption); (simp only [Act.put, List.setIfInBounds_toArray, List.set_cons_zero, List.set_cons_succ])))
      have rx : (wr.alloc (.cells (ints x).toArray 25)).rangeAt wr.heap.size 0 (ints x) := Blk.cg A.out h9
      have hzw : w.heap.size ≤ (wr.alloc (.cells (ints x).toArray 25)).heap.size := HB2.out.size
      generalize hgx : wr.heap.size = gx at *
      generalize wr.alloc (.cells (ints x).toArray 25) = w3 at *
      clear hgx A
      go_wp2_with (first
        | ((with_reducible apply chg_load); (· rfl); (· (first | assumption)); (· assumption); (simp only [Act.put, List.setIfInBounds_toArray, List.set_cons_zero, List.set_cons_succ])))
      refine (P.out _).mono ?_
      rintro e w4 ⟨a', c', rfl, hsb, hb4⟩
      have HB4 := Lib.hid (HB2.out.trans (hb4.mono HB2.out.size))
      have HO4 := Lib.hid (own_stay HO2.out hb4)
      have HSB := Lib.hid hsb
      have hnl : a' = none → c' = 0 := fun h0 => by
        rcases hsb.2 with h1 | ⟨b1, o1, h1, _⟩
        · omega
        · rw [h0] at h1; cases h1
      clear hsb hb4 HO2 HB2 rx
      have hxl : (bcells (encC x)).length = 22 := by rw [bcells_len, encC_len]
      go_wp2_with (first
        | (at_builtin; refine app_any _ _ 27 5 i0 (.int .u8 0) 1 1 Try.underlying27 hi hz0 hz1 hz2 rfl (by decide) rfl rfl rfl HO4.out rfl HSB.out hnl (fun u hu => bcells_one hu) ?c1 ?c2 HB4.out.size ?_))
      case c1 => simp only [maxLen]; omega
      case c2 => omega
      intro v5 w5 ho5 hb5
      rw [← bcells_add, List.cons_append, ← HEN.out, show 1 + 22 * i + 22 = 1 + 22 * (i + 1) by omega] at ho5
      have HO5 := Lib.hid ho5
      have HB5 := Lib.hid (HB4.out.trans hb5)
      clear ho5 hb5 HO4 HSB
      go_wp2_with fail
      go_roundg (gk - 1)
      case measure => omega
      case rel => exact ⟨i + 1, by omega, by go_num, HO5, HB5⟩
    · have hni : (n : Int) ≤ i := by omega
      have hin : i = n := by omega
      rw [hin] at HO
      obtain ⟨xa, xc, rfl, hxa, hxc, hxs⟩ := Sl.own HO.out
      have hxc' : xc ≤ 9223372036854775807 := by simpa [maxLen] using hxc
      have HXQ := Lib.hid (And.intro hxa hxc')
      clear hxa hxc hxc'
      go_wp2_with fail
      go_ret2
      exact ⟨xa, xc, rfl, hxs, HXQ.out, HB.out⟩
set_option maxRecDepth 100000 in
set_option maxHeartbeats 8000000 in
theorem all_no (a : Option Addr) (n c : Nat) (L : List Int) (w : World) (hs : Sl w a n 9 (ints L)) (hn : n ≤ 48) (j : Nat) (hj : j < n) (hok : ∀ i, i < j → mayC (chAt L i) = true) (hno : mayC (chAt L j) = false) :
    Calls Try.prog 17 #[.slice a n c] w fun e w' => e = .returned (.tuple #[.slice none 0 0, .int .i64 4]) ∧ Below w.heap.size w w' := by
  obtain ⟨i0, hi, hz0, hz1, hz2⟩ := info_parts u8_info
  have hl : Hid (L.length = n * 9) := Lib.hid (by have := hs.1; rwa [ints_len] at this)
  have HS := Lib.hid hs
  have HOK := Lib.hid hok
  have hn48 : ¬ (48 : Int) < n := by omega
  have HO00 := own_lit w [.int .u8 (n : Int)] (by simp)
  have hlit := u8_lit n (by omega)
  rw [← hlit] at HO00
  have HO0 : Hid ((w.alloc (.cells #[.int .u8 (n : Int)] 5)).ownsRow w.heap.size 5 1 (.slice (some ⟨w.heap.size, 0, none⟩) 1 1) 1 (bcells [UInt8.ofNat n])) := Lib.hid (by rw [hlit]; exact own_lit w [.int .u8 (n : Int)] (by simp))
  have HB0 := Lib.hid ((Below.refl w.heap.size w).alloc (Nat.le_refl _) (.cells #[.int .u8 (n : Int)] 5))
  clear HO00 hlit
  clear hs hok
  have HNO := Lib.hid hno; clear hno
  go_enter Try.func17, Try.ntmps17
  go_upto_region 4 with fail
  generalize w.alloc (.cells #[.int .u8 (n : Int)] 5) = W at *
  go_wp2_with fail
  go_loopg [4, 18] j (fun qq s4 s18 wr => ∃ i : Nat, qq + i = j ∧ s18 = .int .i64 i ∧ Hid (wr.ownsRow w.heap.size 5 1 s4 (1 + 22 * i) (bcells (UInt8.ofNat n :: encTo L i))) ∧ Hid (Below w.heap.size w wr))
  case atStart => exact ⟨0, by omega, rfl, HO0, HB0⟩
  case round =>
    obtain ⟨i, hqi, rfl, HO, HB⟩ := hrel
    by_cases hin0 : i < j
    · obtain ⟨b, off, rfl, hb, hr0⟩ := chAt_at HS.out (show i < n by omega)
      have h9 : Hid ((chAt L i).length = 9) := Lib.hid (chAt_len hl.out (by omega))
      have rr := range_keep hr0 HB.out hb
      have hi0 : (0 : Int) ≤ i := by omega
      have hin : (i : Int) < n := by omega
      have hmay := HOK.out i hin0
      have P := Lib.hid (fun w => cputx_yes (chAt L i) w h9.out hmay)
      have hen : encTo L (i + 1) = encTo L i ++ encC (chAt L i) := rfl
      have HEN := Lib.hid hen
      have HL := Lib.hid (encTo_len L i)
      clear hr0 hmay hen
      generalize chAt L i = x at *
      have A := Lib.hid (Blk.new wr (ints x).toArray 25)
      have HB2 := Lib.hid (HB.out.alloc HB.out.size (.cells (ints x).toArray 25))
      have HO2 := Lib.hid (own_stay HO.out ((Below.refl _ _).alloc (Nat.le_refl _) (.cells (ints x).toArray 25)))
      rw [List.toList_toArray] at A
      go_upto_region 7 with (first
        | ((with_reducible apply chg_load); (· rfl); (· (first | assumption)); (· assumption); (simp only [Act.put, List.setIfInBounds_toArray, List.set_cons_zero, List.set_cons_succ]))
        | ((with_reducible apply chg_store_new); (· rfl); (· first | rfl | simp); (· rfl); (· rfl); (· assumption); (simp only [Act.put, List.setIfInBounds_toArray, List.set_cons_zero, List.set_cons_succ])))
      have rx : (wr.alloc (.cells (ints x).toArray 25)).rangeAt wr.heap.size 0 (ints x) := Blk.cg A.out h9
      have hzw : w.heap.size ≤ (wr.alloc (.cells (ints x).toArray 25)).heap.size := HB2.out.size
      generalize hgx : wr.heap.size = gx at *
      generalize wr.alloc (.cells (ints x).toArray 25) = w3 at *
      clear hgx A
      go_wp2_with (first
        | ((with_reducible apply chg_load); (· rfl); (· (first | assumption)); (· assumption); (simp only [Act.put, List.setIfInBounds_toArray, List.set_cons_zero, List.set_cons_succ])))
      refine (P.out _).mono ?_
      rintro e w4 ⟨a', c', rfl, hsb, hb4⟩
      have HB4 := Lib.hid (HB2.out.trans (hb4.mono HB2.out.size))
      have HO4 := Lib.hid (own_stay HO2.out hb4)
      have HSB := Lib.hid hsb
      have hnl : a' = none → c' = 0 := fun h0 => by
        rcases hsb.2 with h1 | ⟨b1, o1, h1, _⟩
        · omega
        · rw [h0] at h1; cases h1
      clear hsb hb4 HO2 HB2 rx
      have hxl : (bcells (encC x)).length = 22 := by rw [bcells_len, encC_len]
      go_wp2_with (first
        | (at_builtin; refine app_any _ _ 27 5 i0 (.int .u8 0) 1 1 Try.underlying27 hi hz0 hz1 hz2 rfl (by decide) rfl rfl rfl HO4.out rfl HSB.out hnl (fun u hu => bcells_one hu) ?c1 ?c2 HB4.out.size ?_))
      case c1 => simp only [maxLen]; omega
      case c2 => omega
      intro v5 w5 ho5 hb5
      rw [← bcells_add, List.cons_append, ← HEN.out, show 1 + 22 * i + 22 = 1 + 22 * (i + 1) by omega] at ho5
      have HO5 := Lib.hid ho5
      have HB5 := Lib.hid (HB4.out.trans hb5)
      clear ho5 hb5 HO4 HSB
      go_wp2_with fail
      go_roundg (gk - 1)
      case measure => omega
      case rel => exact ⟨i + 1, by omega, by go_num, HO5, HB5⟩
    · have hij : i = j := by omega
      subst hij
      obtain ⟨b, off, rfl, hb, hr0⟩ := chAt_at HS.out hj
      have h9 : Hid ((chAt L i).length = 9) := Lib.hid (chAt_len hl.out hj)
      have rr := range_keep hr0 HB.out hb
      have hi0 : (0 : Int) ≤ i := by omega
      have hin : (i : Int) < n := by omega
      have P := Lib.hid (fun w => cputx_no (chAt L i) w h9.out HNO.out)
      clear hr0
      generalize chAt L i = x at *
      have A := Lib.hid (Blk.new wr (ints x).toArray 25)
      have HB2 := Lib.hid (HB.out.alloc HB.out.size (.cells (ints x).toArray 25))
      rw [List.toList_toArray] at A
      go_upto_region 7 with (first
        | ((with_reducible apply chg_load); (· rfl); (· (first | assumption)); (· assumption); (simp only [Act.put, List.setIfInBounds_toArray, List.set_cons_zero, List.set_cons_succ]))
        | ((with_reducible apply chg_store_new); (· rfl); (· first | rfl | simp); (· rfl); (· rfl); (· assumption); (simp only [Act.put, List.setIfInBounds_toArray, List.set_cons_zero, List.set_cons_succ])))
      have rx : (wr.alloc (.cells (ints x).toArray 25)).rangeAt wr.heap.size 0 (ints x) := Blk.cg A.out h9
      generalize wr.heap.size = gx at *
      generalize wr.alloc (.cells (ints x).toArray 25) = w3 at *
      go_wp2_with (first
        | ((with_reducible apply chg_load); (· rfl); (· (first | assumption)); (· assumption); (simp only [Act.put, List.setIfInBounds_toArray, List.set_cons_zero, List.set_cons_succ])))
      refine (P.out _).mono ?_
      rintro e w4 ⟨rfl, hb4⟩
      go_wp2_with fail
      go_ret2
      exact ⟨rfl, HB2.out.trans (hb4.mono HB2.out.size)⟩
theorem all_long (a : Option Addr) (n c : Nat) (w : World) (hn : 48 < n) : Calls Try.prog 17 #[.slice a n c] w fun e w' => e = .returned (.tuple #[.slice none 0 0, .int .i64 3]) ∧ w' = w := by
  have hn48 : (48 : Int) < n := by omega
  go_enter Try.func17, Try.ntmps17
  go_wp2_with fail
  go_ret2
  exact ⟨rfl, rfl⟩
end Go.Proofs.Ytalbkpahphndiaa
