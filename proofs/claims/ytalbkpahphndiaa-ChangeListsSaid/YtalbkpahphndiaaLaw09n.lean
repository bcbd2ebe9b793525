/- The statements of changes: lists. -/
import Derived.Test.YtalbkpahphndiaaChg8
import Derived.Test.YtalbkpahphndiaaChg6
import Derived.Test.YtalbkpahphndiaaVec2
import Derived.Test.YtalbkpahphndiaaLaw09m
import Derived.Test.YtalbkpahphndiaaLaw09g
import Derived.Test.YtalbkpahphndiaaMath9l
import Derived.Test.YtalbkpahphndiaaVec4
import Derived.Test.YtalbkpahphndiaaVec3
import Derived.Deep.DeepCutAuto
import Derived.Test.YtalbkpahphndiaaLaw02c
import Derived.Deep.LoopGhost
import Derived.Test.YtalbkpahphndiaaChg4
import Derived.Test.YtalbkpahphndiaaMath9
import Derived.Test.YtalbkpahphndiaaChgEq
import Derived.Test.YtalbkpahphndiaaLaw02
import Derived.Test.YtalbkpahphndiaaHeld
import Derived.Test.YtalbkpahphndiaaRd
import Derived.Test.YtalbkpahphndiaaOct
import Derived.Test.YtalbkpahphndiaaApp
import Derived.Test.YtalbkpahphndiaaRow
import Derived.Test.YtalbkpahphndiaaOps
import Derived.RegionTactic
import Derived.BigRegion
import Derived.ChangeAlike
namespace Go.Proofs.Ytalbkpahphndiaa
set_option linter.unusedVariables false
set_option linter.unusedSimpArgs false
open Go.ChangeShapes Go.WideShapes Go.ChangeAt Go.RowKit
theorem take_get9 {L : List Int} {m k : Nat} : fits (L.getD k 0) = true → fits ((L.take m).getD k 0) = true := fun h => by
  rw [List.getD_eq_getElem?_getD] at h ⊢
  rw [List.getElem?_take]
  split
  · exact h
  · rfl
theorem Sl.few9 {w : World} {a : Option Addr} {n m : Nat} {L : List Int} (h : Sl w a n 9 (ints L)) (hm : m ≤ n) : Sl w a m 9 (ints (L.take (m * 9))) := by
  have hl : L.length = n * 9 := by have := h.1; rwa [ints_len] at this
  refine ⟨by rw [ints_len, List.length_take, hl]; omega, ?_⟩
  rcases h.2 with h0 | ⟨b, off, ha, hb, hc⟩
  · exact Or.inl (by omega)
  · refine Or.inr ⟨b, off, ha, hb, fun j hj => ?_⟩
    rw [hc j (by omega), List.getD_eq_getElem?_getD, List.getD_eq_getElem?_getD, ints_get _ _ (by omega), ints_get _ _ (by rw [List.length_take]; omega), List.getD_eq_getElem?_getD, List.getD_eq_getElem?_getD, List.getElem?_take_of_lt (by omega)]
theorem all_ints9 : ∀ {xs : List Value}, (∀ u ∈ xs, ∃ z, u = .int .i64 z ∧ (Lit.int .i64 z).wf = true) → ∃ L : List Int, xs = ints L ∧ ∀ z ∈ L, (Lit.int .i64 z).wf = true
  | [], _ => ⟨[], rfl, fun z hz => by cases hz⟩
  | x :: xs, h => by
    obtain ⟨z, rfl, hz⟩ := h x List.mem_cons_self
    obtain ⟨L, rfl, hL⟩ := all_ints9 (xs := xs) fun u hu => h u (List.mem_cons_of_mem _ hu)
    exact ⟨z :: L, rfl, fun y hy => by
      rcases List.mem_cons.1 hy with rfl | hy
      · exact hz
      · exact hL y hy⟩
theorem Arg.chgs {w : World} {v : Value} (h : Arg Try.prog w 39 v) : ∃ a n c L, v = .slice a n c ∧ n ≤ c ∧ c ≤ maxLen ∧ Sl w a n 9 (ints L) ∧ ∀ k, fits (L.getD k 0) = true := by
  obtain ⟨a, n, c, xs, rfl, h1, h2, h3, h4, h5⟩ := h.flat_slice Try.underlying39 flat_chg (by kernel_rfl) (by decide)
  have hE : ∃ L : List Int, xs = ints L ∧ ∀ z ∈ L, (Lit.int .i64 z).wf = true := by
    refine all_ints9 fun u hu => ?_
    obtain ⟨j, hj, rfl⟩ := List.getElem_of_mem hu
    have hl : xs.length = n * 9 := h4.1
    have hi : j / 9 < n := Nat.div_lt_of_lt_mul (by omega)
    have hm := Nat.mod_lt j (show 9 > 0 by decide)
    have : ((xs.drop (j / 9 * 9)).take 9)[j % 9]? = some xs[j] := by
      rw [List.getElem?_take_of_lt hm, List.getElem?_drop, show j / 9 * 9 + j % 9 = j by omega, List.getElem?_eq_getElem hj]
    obtain ⟨k, hk1, hk⟩ := (h5 _ hi).get this
    rw [List.getElem?_replicate, if_pos hm] at hk1
    obtain rfl := Option.some.inj hk1
    exact hk
  obtain ⟨L, rfl, hL⟩ := hE
  exact ⟨a, n, c, L, rfl, h1, h2, h4, fits_mem fun z hz => fits_wf (hL z hz)⟩
theorem few9_any (a : Option Addr) (n c : Nat) (w : World) (hn : n ≤ c) : Calls Try.prog 16 #[.slice a n c] w fun e w' => e = .returned (.slice a (min n 60) c) ∧ w' = w := by
  go_enter Try.func16, Try.ntmps16
  by_cases h : 60 < n
  · have h' : (60 : Int) < n := by omega
    have hc : 60 ≤ c := by omega
    rw [show min n 60 = 60 by omega]
    go_wp2_with fail
    go_ret
    exact ⟨rfl, rfl⟩
  · have h' : (n : Int) ≤ 60 := by omega
    rw [show min n 60 = n by omega]
    go_wp2_with fail
    go_ret
    exact ⟨rfl, rfl⟩
theorem rmayx (x : List Int) (w : World) (hx : x.length = 9) (v : Bool) (hm : mayC x = v) : Calls Try.prog 11 #[.agg (ints x).toArray] w fun e w' => e = .returned (.bool v) ∧ Below w.heap.size w w' := by
  match x, hx with
  | [r, s, t, k, a, b, n, p, q], _ => have := rmayc_any r s t k a b n p q w; rw [mayC_list] at hm; rwa [hm] at this
theorem list_full (a : Option Addr) (n c : Nat) (L : List Int) (w : World) (hl : L.length = n * 9) (hn : n ≤ 48) (hm : ∀ i, i < n → mayC (chAt L i) = true) (fx : ∀ k, fits (L.getD k 0) = true) (h : Sl w a (1 + 22 * n) 1 (bcells (UInt8.ofNat n :: encTo L n))) (hc : 1 + 22 * n ≤ c ∧ c ≤ 9223372036854775807) :
    Calls Try.prog 18 #[.slice a (1 + 22 * n) c] w fun e w' => ∃ xb xc, e = .returned (.tuple #[.slice xb n xc, .int .i64 0]) ∧ Sl w' xb n 9 (ints L) ∧ Below w.heap.size w w' := by
  have h0 : ((UInt8.ofNat n :: encTo L n).getD 0 0).toNat = n := by
    show (UInt8.ofNat n).toNat = n
    rw [UInt8.toNat_ofNat']; omega
  by_cases hn0 : n = 0
  · subst hn0
    refine (list_zero a c _ w h hc.1 h0).mono ?_
    rintro e w' ⟨rfl, rfl⟩
    have : L = [] := List.eq_nil_of_length_eq_zero (by omega)
    subst this
    exact ⟨none, 0, rfl, ⟨rfl, Or.inl rfl⟩, Below.refl _ _⟩
  · refine (list_yes a (1 + 22 * n) c n _ w h hc.1 hc.2 hn (by omega) h0 rfl (fun i hi => okSeg_enc _ hl hi hm fx)).mono ?_
    rintro e w' ⟨v, rfl, ho, hb⟩
    rw [decTo_enc _ hl hm fx n (Nat.le_refl _), List.take_of_length_le (by omega)] at ho
    obtain ⟨xb, xc, rfl, _, _, hs⟩ := Sl.own ho
    exact ⟨xb, xc, rfl, hs, hb⟩
theorem rputx (x : List Int) (w : World) (hx : x.length = 9) : Calls Try.prog 14 #[.agg (ints x).toArray] w fun e w' => ∃ a' c', e = .returned (.slice a' 22 c') ∧ Sl w' a' 22 1 (bcells (encC x)) ∧ Below w.heap.size w w' := by
  match x, hx with
  | [r, s, t, k, a, b, n, p, q], _ => exact rputc_any r s t k a b n p q w
set_option maxRecDepth 100000 in
set_option maxHeartbeats 8000000 in
theorem lists_bad_long (a ba : Option Addr) (n0 n c nb cb : Nat) (L : List Int) (w : World) (hs : Sl w a n 9 (ints L)) (hn : n = min n0 60) (hnc : n0 ≤ c) (hf : ∀ k, fits (L.getD k 0) = true) (hln : 48 < n) (HBAD : Hid (∀ w', Below w.heap.size w w' → Calls Try.prog 18 #[.slice ba nb cb] w' fun e w'' => e = .returned (.tuple #[.slice none 0 0, .int .i64 16]) ∧ Below w'.heap.size w' w'')) :
    Calls Try.prog 5 #[.slice a n0 c, .slice ba nb cb] w fun e w' => e = .returned (.bool true) ∧ Below w.heap.size w w' := by
  obtain ⟨i0, hi, hz0, hz1, hz2⟩ := info_parts u8_info
  have hl : Hid (L.length = n * 9) := Lib.hid (by have := hs.1; rwa [ints_len] at this)
  have HS := Lib.hid hs
  have HF := Lib.hid hf
  skip
  skip
  skip
  clear hs hf
  go_enter Try.func5, Try.ntmps5
  go_wp2_with fail
  refine (alive09 _).mono ?_
  rintro e w2 ⟨rfl, hb2⟩
  go_wp2_with fail
  refine (few9_any a n0 c _ hnc).mono ?_
  rintro e w2' ⟨rfl, hw2⟩
  subst hw2
  rw [← hn]
  clear hn
  have HB2 := Lib.hid hb2
  clear hb2
  go_wp2_with fail
  refine (all_long a n c _ hln).mono ?_
  rintro e w3 ⟨rfl, hw3⟩
  subst hw3
  have HB3 := HB2
  go_wp2_with fail
  refine (HBAD.out _ HB3.out).mono ?_
  rintro e w4 ⟨rfl, hb4⟩
  have HB4 := Lib.hid (HB3.out.trans (hb4.mono HB3.out.size))
  clear hb4
  have hln' : (48 : Int) < n := by omega
  go_wp2_with fail
  go_ret
  exact ⟨rfl, HB4.out⟩
set_option maxRecDepth 100000 in
set_option maxHeartbeats 8000000 in
theorem lists_bad_no (a ba : Option Addr) (n0 n c nb cb : Nat) (L : List Int) (w : World) (hs : Sl w a n 9 (ints L)) (hn : n = min n0 60) (hnc : n0 ≤ c) (hf : ∀ k, fits (L.getD k 0) = true) (hln : n ≤ 48) (j : Nat) (hj : j < n) (hok : ∀ i, i < j → mayC (chAt L i) = true) (hno : mayC (chAt L j) = false) (HBAD : Hid (∀ w', Below w.heap.size w w' → Calls Try.prog 18 #[.slice ba nb cb] w' fun e w'' => e = .returned (.tuple #[.slice none 0 0, .int .i64 16]) ∧ Below w'.heap.size w' w'')) :
    Calls Try.prog 5 #[.slice a n0 c, .slice ba nb cb] w fun e w' => e = .returned (.bool true) ∧ Below w.heap.size w w' := by
  obtain ⟨i0, hi, hz0, hz1, hz2⟩ := info_parts u8_info
  have hl : Hid (L.length = n * 9) := Lib.hid (by have := hs.1; rwa [ints_len] at this)
  have HS := Lib.hid hs
  have HF := Lib.hid hf
  have HOK := Lib.hid hok; clear hok
  have HNO := Lib.hid hno; clear hno
  skip
  clear hs hf
  go_enter Try.func5, Try.ntmps5
  go_wp2_with fail
  refine (alive09 _).mono ?_
  rintro e w2 ⟨rfl, hb2⟩
  go_wp2_with fail
  refine (few9_any a n0 c _ hnc).mono ?_
  rintro e w2' ⟨rfl, hw2⟩
  subst hw2
  rw [← hn]
  clear hn
  have HB2 := Lib.hid hb2
  clear hb2
  go_wp2_with fail
  refine (all_no a n c L _ (HS.out.keep HB2.out) hln j hj HOK.out HNO.out).mono ?_
  rintro e w3 ⟨rfl, hb3⟩
  have HB3 := Lib.hid (HB2.out.trans (hb3.mono HB2.out.size))
  clear hb3
  go_wp2_with fail
  refine (HBAD.out _ HB3.out).mono ?_
  rintro e w4 ⟨rfl, hb4⟩
  have HB4 := Lib.hid (HB3.out.trans (hb4.mono HB3.out.size))
  clear hb4
  have hln' : ¬ (48 : Int) < n := by omega
  have hlit := u8_lit n (by omega)
  have HO0 : Hid ((w4.alloc (.cells #[.int .u8 (n : Int)] 5)).ownsRow w4.heap.size 5 1 (.slice (some ⟨w4.heap.size, 0, none⟩) 1 1) (1 + 22 * 0) (bcells (UInt8.ofNat n :: encTo L 0))) := Lib.hid (by rw [show UInt8.ofNat n :: encTo L 0 = [UInt8.ofNat n] from rfl, hlit]; exact own_lit w4 [.int .u8 (n : Int)] (by simp))
  have HBW0 := Lib.hid ((Below.refl w4.heap.size w4).alloc (Nat.le_refl _) (.cells #[.int .u8 (n : Int)] 5))
  have HSX := Lib.hid (HS.out.keep HB4.out)
  clear hlit
  go_upto_region 15 with fail
  generalize w4.alloc (.cells #[.int .u8 (n : Int)] 5) = W at *
  go_wp2_with fail
  go_loopg [11, 12] j (fun qq s11 s12 wr => ∃ i : Nat, qq + i = j ∧ s12 = .int .i64 i ∧ Hid (wr.ownsRow w4.heap.size 5 1 s11 (1 + 22 * i) (bcells (UInt8.ofNat n :: encTo L i))) ∧ Hid (Below w4.heap.size w4 wr))
  case atStart => exact ⟨0, by omega, rfl, HO0, HBW0⟩
  case round =>
    obtain ⟨i, hqi, rfl, HO, HBr⟩ := hrel
    by_cases hin0 : i < j
    · obtain ⟨b, off, rfl, hb, hr0⟩ := chAt_at HSX.out (show i < n by omega)
      have h9 : Hid ((chAt L i).length = 9) := Lib.hid (chAt_len hl.out (by omega))
      have rr := range_keep hr0 HBr.out hb
      have RR := Lib.hid hr0
      have hi0 : (0 : Int) ≤ i := by omega
      have hin : (i : Int) < n := by omega
      have M := Lib.hid (fun w => rmayx (chAt L i) w h9.out true (HOK.out i hin0))
      have P := Lib.hid (fun w => rputx (chAt L i) w h9.out)
      have HEN := Lib.hid (show encTo L (i + 1) = encTo L i ++ encC (chAt L i) from rfl)
      clear hr0
      generalize chAt L i = x at *
      go_wp2_with (first
        | ((with_reducible apply chg_load); (· rfl); (· (first | assumption)); (· assumption); (simp only [Act.put, List.setIfInBounds_toArray, List.set_cons_zero, List.set_cons_succ]))
        | ((with_reducible apply chg_load_g); (· rfl); (· rfl); (· (first | assumption)); (· assumption); (simp only [Act.put, List.setIfInBounds_toArray, List.set_cons_zero, List.set_cons_succ])))
      refine (M.out _).mono ?_
      rintro e w6 ⟨rfl, hb6⟩
      have HO6 := Lib.hid (own_stay HO.out hb6)
      have HB6 := Lib.hid (HBr.out.trans (hb6.mono HBr.out.size))
      have rr6 := range_keep RR.out HB6.out hb
      clear hb6 rr HO HBr
      go_wp2_with (first
        | ((with_reducible apply chg_load); (· rfl); (· (first | assumption)); (· assumption); (simp only [Act.put, List.setIfInBounds_toArray, List.set_cons_zero, List.set_cons_succ]))
        | ((with_reducible apply chg_load_g); (· rfl); (· rfl); (· (first | assumption)); (· assumption); (simp only [Act.put, List.setIfInBounds_toArray, List.set_cons_zero, List.set_cons_succ])))
      refine (P.out _).mono ?_
      rintro e w7 ⟨a', c', rfl, hsb, hb7⟩
      have HB7 := Lib.hid (HB6.out.trans (hb7.mono HB6.out.size))
      have HO7 := Lib.hid (own_stay HO6.out hb7)
      have HSB7 := Lib.hid hsb
      have hnl : a' = none → c' = 0 := fun h0 => by
        rcases hsb.2 with h1 | ⟨b1, o1, h1, _⟩
        · omega
        · rw [h0] at h1; cases h1
      clear hsb hb7 HO6 rr6
      go_wp2_with (first
        | (at_builtin; refine app_any _ _ 27 5 i0 (.int .u8 0) 1 1 Try.underlying27 hi hz0 hz1 hz2 rfl (by decide) rfl rfl rfl HO7.out rfl HSB7.out hnl (fun u hu => bcells_one hu) ?c1 ?c2 HB7.out.size ?_))
      case c1 => simp only [maxLen]; omega
      case c2 => omega
      intro v8 w8 ho8 hb8
      rw [← bcells_add, List.cons_append, ← HEN.out, show 1 + 22 * i + 22 = 1 + 22 * (i + 1) by omega] at ho8
      have HO8 := Lib.hid ho8
      have HB8 := Lib.hid (HB7.out.trans hb8)
      clear ho8 hb8 HO7 HSB7
      go_wp2_with fail
      go_roundg (gk - 1)
      case measure => omega
      case rel => exact ⟨i + 1, by omega, by go_num, HO8, HB8⟩
    · have hij : i = j := by omega
      subst hij
      obtain ⟨b, off, rfl, hb, hr0⟩ := chAt_at HSX.out hj
      have h9 : Hid ((chAt L i).length = 9) := Lib.hid (chAt_len hl.out hj)
      have rr := range_keep hr0 HBr.out hb
      have hi0 : (0 : Int) ≤ i := by omega
      have hin : (i : Int) < n := by omega
      have M := Lib.hid (fun w => rmayx (chAt L i) w h9.out false HNO.out)
      clear hr0
      generalize chAt L i = x at *
      go_wp2_with (first
        | ((with_reducible apply chg_load); (· rfl); (· (first | assumption)); (· assumption); (simp only [Act.put, List.setIfInBounds_toArray, List.set_cons_zero, List.set_cons_succ]))
        | ((with_reducible apply chg_load_g); (· rfl); (· rfl); (· (first | assumption)); (· assumption); (simp only [Act.put, List.setIfInBounds_toArray, List.set_cons_zero, List.set_cons_succ])))
      refine (M.out _).mono ?_
      rintro e w6 ⟨rfl, hb6⟩
      go_wp2_with fail
      go_ret
      exact ⟨rfl, HB4.out.trans ((HBr.out.trans (hb6.mono HBr.out.size)).mono HB4.out.size)⟩
set_option maxRecDepth 100000 in
set_option maxHeartbeats 8000000 in
theorem lists_bad_yes (a ba : Option Addr) (n0 n c nb cb : Nat) (L : List Int) (w : World) (hs : Sl w a n 9 (ints L)) (hn : n = min n0 60) (hnc : n0 ≤ c) (hf : ∀ k, fits (L.getD k 0) = true) (hln : n ≤ 48) (hok : ∀ i, i < n → mayC (chAt L i) = true) (HBAD : Hid (∀ w', Below w.heap.size w w' → Calls Try.prog 18 #[.slice ba nb cb] w' fun e w'' => e = .returned (.tuple #[.slice none 0 0, .int .i64 16]) ∧ Below w'.heap.size w' w'')) :
    Calls Try.prog 5 #[.slice a n0 c, .slice ba nb cb] w fun e w' => e = .returned (.bool true) ∧ Below w.heap.size w w' := by
  obtain ⟨i0, hi, hz0, hz1, hz2⟩ := info_parts u8_info
  have hl : Hid (L.length = n * 9) := Lib.hid (by have := hs.1; rwa [ints_len] at this)
  have HS := Lib.hid hs
  have HF := Lib.hid hf
  have HOK := Lib.hid hok; clear hok
  skip
  skip
  clear hs hf
  go_enter Try.func5, Try.ntmps5
  go_wp2_with fail
  refine (alive09 _).mono ?_
  rintro e w2 ⟨rfl, hb2⟩
  go_wp2_with fail
  refine (few9_any a n0 c _ hnc).mono ?_
  rintro e w2' ⟨rfl, hw2⟩
  subst hw2
  rw [← hn]
  clear hn
  have HB2 := Lib.hid hb2
  clear hb2
  go_wp2_with fail
  refine (all_yes a n c L _ (HS.out.keep HB2.out) hln HOK.out).mono ?_
  rintro e w3 ⟨pa, pc, rfl, hsp, hpc, hb3⟩
  have HPC := Lib.hid hpc
  clear hpc
  have HB3 := Lib.hid (HB2.out.trans (hb3.mono HB2.out.size))
  have HSP3 := Lib.hid hsp
  clear hb3 hsp
  go_wp2_with fail
  refine (HBAD.out _ HB3.out).mono ?_
  rintro e w4 ⟨rfl, hb4⟩
  have HB4 := Lib.hid (HB3.out.trans (hb4.mono HB3.out.size))
  have HSP4 := Lib.hid (HSP3.out.keep hb4)
  clear hb4
  have hln' : ¬ (48 : Int) < n := by omega
  have hlit := u8_lit n (by omega)
  have HO0 : Hid ((w4.alloc (.cells #[.int .u8 (n : Int)] 5)).ownsRow w4.heap.size 5 1 (.slice (some ⟨w4.heap.size, 0, none⟩) 1 1) (1 + 22 * 0) (bcells (UInt8.ofNat n :: encTo L 0))) := Lib.hid (by rw [show UInt8.ofNat n :: encTo L 0 = [UInt8.ofNat n] from rfl, hlit]; exact own_lit w4 [.int .u8 (n : Int)] (by simp))
  have HBW0 := Lib.hid ((Below.refl w4.heap.size w4).alloc (Nat.le_refl _) (.cells #[.int .u8 (n : Int)] 5))
  have HSX := Lib.hid (HS.out.keep HB4.out)
  clear hlit
  go_upto_region 15 with fail
  generalize w4.alloc (.cells #[.int .u8 (n : Int)] 5) = W at *
  go_wp2_with fail
  go_loopg [11, 12] n (fun qq s11 s12 wr => ∃ i : Nat, qq + i = n ∧ s12 = .int .i64 i ∧ Hid (wr.ownsRow w4.heap.size 5 1 s11 (1 + 22 * i) (bcells (UInt8.ofNat n :: encTo L i))) ∧ Hid (Below w4.heap.size w4 wr))
  case atStart => exact ⟨0, by omega, rfl, HO0, HBW0⟩
  case round =>
    obtain ⟨i, hqi, rfl, HO, HBr⟩ := hrel
    by_cases hin0 : i < n
    · obtain ⟨b, off, rfl, hb, hr0⟩ := chAt_at HSX.out (show i < n by omega)
      have h9 : Hid ((chAt L i).length = 9) := Lib.hid (chAt_len hl.out (by omega))
      have rr := range_keep hr0 HBr.out hb
      have RR := Lib.hid hr0
      have hi0 : (0 : Int) ≤ i := by omega
      have hin : (i : Int) < n := by omega
      have M := Lib.hid (fun w => rmayx (chAt L i) w h9.out true (HOK.out i hin0))
      have P := Lib.hid (fun w => rputx (chAt L i) w h9.out)
      have HEN := Lib.hid (show encTo L (i + 1) = encTo L i ++ encC (chAt L i) from rfl)
      clear hr0
      generalize chAt L i = x at *
      go_wp2_with (first
        | ((with_reducible apply chg_load); (· rfl); (· (first | assumption)); (· assumption); (simp only [Act.put, List.setIfInBounds_toArray, List.set_cons_zero, List.set_cons_succ]))
        | ((with_reducible apply chg_load_g); (· rfl); (· rfl); (· (first | assumption)); (· assumption); (simp only [Act.put, List.setIfInBounds_toArray, List.set_cons_zero, List.set_cons_succ])))
      refine (M.out _).mono ?_
      rintro e w6 ⟨rfl, hb6⟩
      have HO6 := Lib.hid (own_stay HO.out hb6)
      have HB6 := Lib.hid (HBr.out.trans (hb6.mono HBr.out.size))
      have rr6 := range_keep RR.out HB6.out hb
      clear hb6 rr HO HBr
      go_wp2_with (first
        | ((with_reducible apply chg_load); (· rfl); (· (first | assumption)); (· assumption); (simp only [Act.put, List.setIfInBounds_toArray, List.set_cons_zero, List.set_cons_succ]))
        | ((with_reducible apply chg_load_g); (· rfl); (· rfl); (· (first | assumption)); (· assumption); (simp only [Act.put, List.setIfInBounds_toArray, List.set_cons_zero, List.set_cons_succ])))
      refine (P.out _).mono ?_
      rintro e w7 ⟨a', c', rfl, hsb, hb7⟩
      have HB7 := Lib.hid (HB6.out.trans (hb7.mono HB6.out.size))
      have HO7 := Lib.hid (own_stay HO6.out hb7)
      have HSB7 := Lib.hid hsb
      have hnl : a' = none → c' = 0 := fun h0 => by
        rcases hsb.2 with h1 | ⟨b1, o1, h1, _⟩
        · omega
        · rw [h0] at h1; cases h1
      clear hsb hb7 HO6 rr6
      go_wp2_with (first
        | (at_builtin; refine app_any _ _ 27 5 i0 (.int .u8 0) 1 1 Try.underlying27 hi hz0 hz1 hz2 rfl (by decide) rfl rfl rfl HO7.out rfl HSB7.out hnl (fun u hu => bcells_one hu) ?c1 ?c2 HB7.out.size ?_))
      case c1 => simp only [maxLen]; omega
      case c2 => omega
      intro v8 w8 ho8 hb8
      rw [← bcells_add, List.cons_append, ← HEN.out, show 1 + 22 * i + 22 = 1 + 22 * (i + 1) by omega] at ho8
      have HO8 := Lib.hid ho8
      have HB8 := Lib.hid (HB7.out.trans hb8)
      clear ho8 hb8 HO7 HSB7
      go_wp2_with fail
      go_roundg (gk - 1)
      case measure => omega
      case rel => exact ⟨i + 1, by omega, by go_num, HO8, HB8⟩
    · have hni : (n : Int) ≤ i := by omega
      have hin : i = n := by omega
      rw [hin] at HO
      obtain ⟨xa9, xc9, rfl, _, _, hxs9⟩ := Sl.own HO.out
      have HX9 := Lib.hid hxs9
      have HP9 := Lib.hid (HSP4.out.keep HBr.out)
      have HBB := Lib.hid (HB4.out.trans (HBr.out.mono HB4.out.size))
      clear hxs9 HO
      go_wp2_with fail
      refine (list_full pa n pc L _ hl.out hln HOK.out HF.out HP9.out HPC.out).mono ?_
      rintro e wa ⟨xb, xbc, rfl, hxb, hba⟩
      have HXB := Lib.hid hxb
      have cva := conv_bytes (HP9.out.keep hba) pc
      have cvb := conv_bytes (HX9.out.keep hba) xc9
      have HBa := Lib.hid (HBB.out.trans (hba.mono HBB.out.size))
      have HSa := Lib.hid (HS.out.keep HBa.out)
      clear hxb hba HX9 HP9
      go_wp2_with fail
      refine (changes_same xb a n xbc c L _ HXB.out HSa.out (by omega) HF.out).mono ?_
      rintro e wb ⟨rfl, hbb⟩
      go_wp2_with fail
      go_ret
      exact ⟨rfl, HBa.out.trans (hbb.mono HBa.out.size)⟩
set_option maxRecDepth 100000 in
set_option maxHeartbeats 8000000 in
theorem lists_good_long (a ba : Option Addr) (n0 n c nb cb : Nat) (L : List Int) (w : World) (hs : Sl w a n 9 (ints L)) (hn : n = min n0 60) (hnc : n0 ≤ c) (hf : ∀ k, fits (L.getD k 0) = true) (hln : 48 < n) (k : Nat) (X : List Int) (bs : List UInt8) (hk : k ≤ 48) (hX : ∀ i, i < k → mayC (chAt X i) = true) (hE : UInt8.ofNat k :: encTo X k = bs) (hnb : nb = 1 + 22 * k) (hsb : Sl w ba nb 1 (bcells bs)) (HGOOD : Hid (∀ w', Below w.heap.size w w' → Calls Try.prog 18 #[.slice ba nb cb] w' fun e w'' => ∃ v, e = .returned (.tuple #[v, .int .i64 0]) ∧ w''.ownsRow w'.heap.size 25 9 v k (ints X) ∧ Below w'.heap.size w' w'')) :
    Calls Try.prog 5 #[.slice a n0 c, .slice ba nb cb] w fun e w' => e = .returned (.bool true) ∧ Below w.heap.size w w' := by
  obtain ⟨i0, hi, hz0, hz1, hz2⟩ := info_parts u8_info
  have hl : Hid (L.length = n * 9) := Lib.hid (by have := hs.1; rwa [ints_len] at this)
  have HS := Lib.hid hs
  have HF := Lib.hid hf
  skip
  skip
  have HX := Lib.hid hX; have HE := Lib.hid hE; have HSB := Lib.hid hsb; have HNB := Lib.hid hnb; clear hX hE hsb hnb
  clear hs hf
  go_enter Try.func5, Try.ntmps5
  go_wp2_with fail
  refine (alive09 _).mono ?_
  rintro e w2 ⟨rfl, hb2⟩
  go_wp2_with fail
  refine (few9_any a n0 c _ hnc).mono ?_
  rintro e w2' ⟨rfl, hw2⟩
  subst hw2
  rw [← hn]
  clear hn
  have HB2 := Lib.hid hb2
  clear hb2
  go_wp2_with fail
  refine (all_long a n c _ hln).mono ?_
  rintro e w3 ⟨rfl, hw3⟩
  subst hw3
  have HB3 := HB2
  go_wp2_with fail
  refine (HGOOD.out _ HB3.out).mono ?_
  rintro e w4 ⟨v, rfl, ho, hb4⟩
  obtain ⟨xa, xc, rfl, _, _, hxs⟩ := Sl.own ho
  have HB4 := Lib.hid (HB3.out.trans (hb4.mono HB3.out.size))
  clear hb4 ho
  go_wp2_with fail
  refine (all_yes xa k xc X _ hxs hk HX.out).mono ?_
  rintro e w5 ⟨ga, gc, rfl, hgs, _, hb5⟩
  rw [HE.out] at hgs
  have HB5 := Lib.hid (HB4.out.trans (hb5.mono HB4.out.size))
  have cv1 := conv_bytes hgs gc
  have cv2 := conv_bytes (HSB.out.keep HB5.out) cb
  clear hb5 hgs hxs
  have hln' : (48 : Int) < n := by omega
  go_wp2_with fail
  go_ret
  exact ⟨rfl, HB5.out⟩
set_option maxRecDepth 100000 in
set_option maxHeartbeats 8000000 in
theorem lists_good_no (a ba : Option Addr) (n0 n c nb cb : Nat) (L : List Int) (w : World) (hs : Sl w a n 9 (ints L)) (hn : n = min n0 60) (hnc : n0 ≤ c) (hf : ∀ k, fits (L.getD k 0) = true) (hln : n ≤ 48) (j : Nat) (hj : j < n) (hok : ∀ i, i < j → mayC (chAt L i) = true) (hno : mayC (chAt L j) = false) (k : Nat) (X : List Int) (bs : List UInt8) (hk : k ≤ 48) (hX : ∀ i, i < k → mayC (chAt X i) = true) (hE : UInt8.ofNat k :: encTo X k = bs) (hnb : nb = 1 + 22 * k) (hsb : Sl w ba nb 1 (bcells bs)) (HGOOD : Hid (∀ w', Below w.heap.size w w' → Calls Try.prog 18 #[.slice ba nb cb] w' fun e w'' => ∃ v, e = .returned (.tuple #[v, .int .i64 0]) ∧ w''.ownsRow w'.heap.size 25 9 v k (ints X) ∧ Below w'.heap.size w' w'')) :
    Calls Try.prog 5 #[.slice a n0 c, .slice ba nb cb] w fun e w' => e = .returned (.bool true) ∧ Below w.heap.size w w' := by
  obtain ⟨i0, hi, hz0, hz1, hz2⟩ := info_parts u8_info
  have hl : Hid (L.length = n * 9) := Lib.hid (by have := hs.1; rwa [ints_len] at this)
  have HS := Lib.hid hs
  have HF := Lib.hid hf
  have HOK := Lib.hid hok; clear hok
  have HNO := Lib.hid hno; clear hno
  have HX := Lib.hid hX; have HE := Lib.hid hE; have HSB := Lib.hid hsb; have HNB := Lib.hid hnb; clear hX hE hsb hnb
  clear hs hf
  go_enter Try.func5, Try.ntmps5
  go_wp2_with fail
  refine (alive09 _).mono ?_
  rintro e w2 ⟨rfl, hb2⟩
  go_wp2_with fail
  refine (few9_any a n0 c _ hnc).mono ?_
  rintro e w2' ⟨rfl, hw2⟩
  subst hw2
  rw [← hn]
  clear hn
  have HB2 := Lib.hid hb2
  clear hb2
  go_wp2_with fail
  refine (all_no a n c L _ (HS.out.keep HB2.out) hln j hj HOK.out HNO.out).mono ?_
  rintro e w3 ⟨rfl, hb3⟩
  have HB3 := Lib.hid (HB2.out.trans (hb3.mono HB2.out.size))
  clear hb3
  go_wp2_with fail
  refine (HGOOD.out _ HB3.out).mono ?_
  rintro e w4 ⟨v, rfl, ho, hb4⟩
  obtain ⟨xa, xc, rfl, _, _, hxs⟩ := Sl.own ho
  have HB4 := Lib.hid (HB3.out.trans (hb4.mono HB3.out.size))
  clear hb4 ho
  go_wp2_with fail
  refine (all_yes xa k xc X _ hxs hk HX.out).mono ?_
  rintro e w5 ⟨ga, gc, rfl, hgs, _, hb5⟩
  rw [HE.out] at hgs
  have HB5 := Lib.hid (HB4.out.trans (hb5.mono HB4.out.size))
  have cv1 := conv_bytes hgs gc
  have cv2 := conv_bytes (HSB.out.keep HB5.out) cb
  clear hb5 hgs hxs
  have hln' : ¬ (48 : Int) < n := by omega
  have hlit := u8_lit n (by omega)
  have HO0 : Hid ((w5.alloc (.cells #[.int .u8 (n : Int)] 5)).ownsRow w5.heap.size 5 1 (.slice (some ⟨w5.heap.size, 0, none⟩) 1 1) (1 + 22 * 0) (bcells (UInt8.ofNat n :: encTo L 0))) := Lib.hid (by rw [show UInt8.ofNat n :: encTo L 0 = [UInt8.ofNat n] from rfl, hlit]; exact own_lit w5 [.int .u8 (n : Int)] (by simp))
  have HBW0 := Lib.hid ((Below.refl w5.heap.size w5).alloc (Nat.le_refl _) (.cells #[.int .u8 (n : Int)] 5))
  have HSX := Lib.hid (HS.out.keep HB5.out)
  clear hlit
  go_upto_region 15 with fail
  generalize w5.alloc (.cells #[.int .u8 (n : Int)] 5) = W at *
  go_wp2_with fail
  go_loopg [11, 12] j (fun qq s11 s12 wr => ∃ i : Nat, qq + i = j ∧ s12 = .int .i64 i ∧ Hid (wr.ownsRow w5.heap.size 5 1 s11 (1 + 22 * i) (bcells (UInt8.ofNat n :: encTo L i))) ∧ Hid (Below w5.heap.size w5 wr))
  case atStart => exact ⟨0, by omega, rfl, HO0, HBW0⟩
  case round =>
    obtain ⟨i, hqi, rfl, HO, HBr⟩ := hrel
    by_cases hin0 : i < j
    · obtain ⟨b, off, rfl, hb, hr0⟩ := chAt_at HSX.out (show i < n by omega)
      have h9 : Hid ((chAt L i).length = 9) := Lib.hid (chAt_len hl.out (by omega))
      have rr := range_keep hr0 HBr.out hb
      have RR := Lib.hid hr0
      have hi0 : (0 : Int) ≤ i := by omega
      have hin : (i : Int) < n := by omega
      have M := Lib.hid (fun w => rmayx (chAt L i) w h9.out true (HOK.out i hin0))
      have P := Lib.hid (fun w => rputx (chAt L i) w h9.out)
      have HEN := Lib.hid (show encTo L (i + 1) = encTo L i ++ encC (chAt L i) from rfl)
      clear hr0
      generalize chAt L i = x at *
      go_wp2_with (first
        | ((with_reducible apply chg_load); (· rfl); (· (first | assumption)); (· assumption); (simp only [Act.put, List.setIfInBounds_toArray, List.set_cons_zero, List.set_cons_succ]))
        | ((with_reducible apply chg_load_g); (· rfl); (· rfl); (· (first | assumption)); (· assumption); (simp only [Act.put, List.setIfInBounds_toArray, List.set_cons_zero, List.set_cons_succ])))
      refine (M.out _).mono ?_
      rintro e w6 ⟨rfl, hb6⟩
      have HO6 := Lib.hid (own_stay HO.out hb6)
      have HB6 := Lib.hid (HBr.out.trans (hb6.mono HBr.out.size))
      have rr6 := range_keep RR.out HB6.out hb
      clear hb6 rr HO HBr
      go_wp2_with (first
        | ((with_reducible apply chg_load); (· rfl); (· (first | assumption)); (· assumption); (simp only [Act.put, List.setIfInBounds_toArray, List.set_cons_zero, List.set_cons_succ]))
        | ((with_reducible apply chg_load_g); (· rfl); (· rfl); (· (first | assumption)); (· assumption); (simp only [Act.put, List.setIfInBounds_toArray, List.set_cons_zero, List.set_cons_succ])))
      refine (P.out _).mono ?_
      rintro e w7 ⟨a', c', rfl, hsb, hb7⟩
      have HB7 := Lib.hid (HB6.out.trans (hb7.mono HB6.out.size))
      have HO7 := Lib.hid (own_stay HO6.out hb7)
      have HSB7 := Lib.hid hsb
      have hnl : a' = none → c' = 0 := fun h0 => by
        rcases hsb.2 with h1 | ⟨b1, o1, h1, _⟩
        · omega
        · rw [h0] at h1; cases h1
      clear hsb hb7 HO6 rr6
      go_wp2_with (first
        | (at_builtin; refine app_any _ _ 27 5 i0 (.int .u8 0) 1 1 Try.underlying27 hi hz0 hz1 hz2 rfl (by decide) rfl rfl rfl HO7.out rfl HSB7.out hnl (fun u hu => bcells_one hu) ?c1 ?c2 HB7.out.size ?_))
      case c1 => simp only [maxLen]; omega
      case c2 => omega
      intro v8 w8 ho8 hb8
      rw [← bcells_add, List.cons_append, ← HEN.out, show 1 + 22 * i + 22 = 1 + 22 * (i + 1) by omega] at ho8
      have HO8 := Lib.hid ho8
      have HB8 := Lib.hid (HB7.out.trans hb8)
      clear ho8 hb8 HO7 HSB7
      go_wp2_with fail
      go_roundg (gk - 1)
      case measure => omega
      case rel => exact ⟨i + 1, by omega, by go_num, HO8, HB8⟩
    · have hij : i = j := by omega
      subst hij
      obtain ⟨b, off, rfl, hb, hr0⟩ := chAt_at HSX.out hj
      have h9 : Hid ((chAt L i).length = 9) := Lib.hid (chAt_len hl.out hj)
      have rr := range_keep hr0 HBr.out hb
      have hi0 : (0 : Int) ≤ i := by omega
      have hin : (i : Int) < n := by omega
      have M := Lib.hid (fun w => rmayx (chAt L i) w h9.out false HNO.out)
      clear hr0
      generalize chAt L i = x at *
      go_wp2_with (first
        | ((with_reducible apply chg_load); (· rfl); (· (first | assumption)); (· assumption); (simp only [Act.put, List.setIfInBounds_toArray, List.set_cons_zero, List.set_cons_succ]))
        | ((with_reducible apply chg_load_g); (· rfl); (· rfl); (· (first | assumption)); (· assumption); (simp only [Act.put, List.setIfInBounds_toArray, List.set_cons_zero, List.set_cons_succ])))
      refine (M.out _).mono ?_
      rintro e w6 ⟨rfl, hb6⟩
      go_wp2_with fail
      go_ret
      exact ⟨rfl, HB5.out.trans ((HBr.out.trans (hb6.mono HBr.out.size)).mono HB5.out.size)⟩
set_option maxRecDepth 100000 in
set_option maxHeartbeats 8000000 in
theorem lists_good_yes (a ba : Option Addr) (n0 n c nb cb : Nat) (L : List Int) (w : World) (hs : Sl w a n 9 (ints L)) (hn : n = min n0 60) (hnc : n0 ≤ c) (hf : ∀ k, fits (L.getD k 0) = true) (hln : n ≤ 48) (hok : ∀ i, i < n → mayC (chAt L i) = true) (k : Nat) (X : List Int) (bs : List UInt8) (hk : k ≤ 48) (hX : ∀ i, i < k → mayC (chAt X i) = true) (hE : UInt8.ofNat k :: encTo X k = bs) (hnb : nb = 1 + 22 * k) (hsb : Sl w ba nb 1 (bcells bs)) (HGOOD : Hid (∀ w', Below w.heap.size w w' → Calls Try.prog 18 #[.slice ba nb cb] w' fun e w'' => ∃ v, e = .returned (.tuple #[v, .int .i64 0]) ∧ w''.ownsRow w'.heap.size 25 9 v k (ints X) ∧ Below w'.heap.size w' w'')) :
    Calls Try.prog 5 #[.slice a n0 c, .slice ba nb cb] w fun e w' => e = .returned (.bool true) ∧ Below w.heap.size w w' := by
  obtain ⟨i0, hi, hz0, hz1, hz2⟩ := info_parts u8_info
  have hl : Hid (L.length = n * 9) := Lib.hid (by have := hs.1; rwa [ints_len] at this)
  have HS := Lib.hid hs
  have HF := Lib.hid hf
  have HOK := Lib.hid hok; clear hok
  skip
  have HX := Lib.hid hX; have HE := Lib.hid hE; have HSB := Lib.hid hsb; have HNB := Lib.hid hnb; clear hX hE hsb hnb
  clear hs hf
  go_enter Try.func5, Try.ntmps5
  go_wp2_with fail
  refine (alive09 _).mono ?_
  rintro e w2 ⟨rfl, hb2⟩
  go_wp2_with fail
  refine (few9_any a n0 c _ hnc).mono ?_
  rintro e w2' ⟨rfl, hw2⟩
  subst hw2
  rw [← hn]
  clear hn
  have HB2 := Lib.hid hb2
  clear hb2
  go_wp2_with fail
  refine (all_yes a n c L _ (HS.out.keep HB2.out) hln HOK.out).mono ?_
  rintro e w3 ⟨pa, pc, rfl, hsp, hpc, hb3⟩
  have HPC := Lib.hid hpc
  clear hpc
  have HB3 := Lib.hid (HB2.out.trans (hb3.mono HB2.out.size))
  have HSP3 := Lib.hid hsp
  clear hb3 hsp
  go_wp2_with fail
  refine (HGOOD.out _ HB3.out).mono ?_
  rintro e w4 ⟨v, rfl, ho, hb4⟩
  obtain ⟨xa, xc, rfl, _, _, hxs⟩ := Sl.own ho
  have HB4 := Lib.hid (HB3.out.trans (hb4.mono HB3.out.size))
  have HSP4 := Lib.hid (HSP3.out.keep hb4)
  clear hb4 ho
  go_wp2_with fail
  refine (all_yes xa k xc X _ hxs hk HX.out).mono ?_
  rintro e w5 ⟨ga, gc, rfl, hgs, _, hb5⟩
  rw [HE.out] at hgs
  have HB5 := Lib.hid (HB4.out.trans (hb5.mono HB4.out.size))
  have HSP5 := Lib.hid (HSP4.out.keep hb5)
  have cv1 := conv_bytes hgs gc
  have cv2 := conv_bytes (HSB.out.keep HB5.out) cb
  clear hb5 hgs hxs
  have hln' : ¬ (48 : Int) < n := by omega
  have hlit := u8_lit n (by omega)
  have HO0 : Hid ((w5.alloc (.cells #[.int .u8 (n : Int)] 5)).ownsRow w5.heap.size 5 1 (.slice (some ⟨w5.heap.size, 0, none⟩) 1 1) (1 + 22 * 0) (bcells (UInt8.ofNat n :: encTo L 0))) := Lib.hid (by rw [show UInt8.ofNat n :: encTo L 0 = [UInt8.ofNat n] from rfl, hlit]; exact own_lit w5 [.int .u8 (n : Int)] (by simp))
  have HBW0 := Lib.hid ((Below.refl w5.heap.size w5).alloc (Nat.le_refl _) (.cells #[.int .u8 (n : Int)] 5))
  have HSX := Lib.hid (HS.out.keep HB5.out)
  clear hlit
  go_upto_region 15 with fail
  generalize w5.alloc (.cells #[.int .u8 (n : Int)] 5) = W at *
  go_wp2_with fail
  go_loopg [11, 12] n (fun qq s11 s12 wr => ∃ i : Nat, qq + i = n ∧ s12 = .int .i64 i ∧ Hid (wr.ownsRow w5.heap.size 5 1 s11 (1 + 22 * i) (bcells (UInt8.ofNat n :: encTo L i))) ∧ Hid (Below w5.heap.size w5 wr))
  case atStart => exact ⟨0, by omega, rfl, HO0, HBW0⟩
  case round =>
    obtain ⟨i, hqi, rfl, HO, HBr⟩ := hrel
    by_cases hin0 : i < n
    · obtain ⟨b, off, rfl, hb, hr0⟩ := chAt_at HSX.out (show i < n by omega)
      have h9 : Hid ((chAt L i).length = 9) := Lib.hid (chAt_len hl.out (by omega))
      have rr := range_keep hr0 HBr.out hb
      have RR := Lib.hid hr0
      have hi0 : (0 : Int) ≤ i := by omega
      have hin : (i : Int) < n := by omega
      have M := Lib.hid (fun w => rmayx (chAt L i) w h9.out true (HOK.out i hin0))
      have P := Lib.hid (fun w => rputx (chAt L i) w h9.out)
      have HEN := Lib.hid (show encTo L (i + 1) = encTo L i ++ encC (chAt L i) from rfl)
      clear hr0
      generalize chAt L i = x at *
      go_wp2_with (first
        | ((with_reducible apply chg_load); (· rfl); (· (first | assumption)); (· assumption); (simp only [Act.put, List.setIfInBounds_toArray, List.set_cons_zero, List.set_cons_succ]))
        | ((with_reducible apply chg_load_g); (· rfl); (· rfl); (· (first | assumption)); (· assumption); (simp only [Act.put, List.setIfInBounds_toArray, List.set_cons_zero, List.set_cons_succ])))
      refine (M.out _).mono ?_
      rintro e w6 ⟨rfl, hb6⟩
      have HO6 := Lib.hid (own_stay HO.out hb6)
      have HB6 := Lib.hid (HBr.out.trans (hb6.mono HBr.out.size))
      have rr6 := range_keep RR.out HB6.out hb
      clear hb6 rr HO HBr
      go_wp2_with (first
        | ((with_reducible apply chg_load); (· rfl); (· (first | assumption)); (· assumption); (simp only [Act.put, List.setIfInBounds_toArray, List.set_cons_zero, List.set_cons_succ]))
        | ((with_reducible apply chg_load_g); (· rfl); (· rfl); (· (first | assumption)); (· assumption); (simp only [Act.put, List.setIfInBounds_toArray, List.set_cons_zero, List.set_cons_succ])))
      refine (P.out _).mono ?_
      rintro e w7 ⟨a', c', rfl, hsb, hb7⟩
      have HB7 := Lib.hid (HB6.out.trans (hb7.mono HB6.out.size))
      have HO7 := Lib.hid (own_stay HO6.out hb7)
      have HSB7 := Lib.hid hsb
      have hnl : a' = none → c' = 0 := fun h0 => by
        rcases hsb.2 with h1 | ⟨b1, o1, h1, _⟩
        · omega
        · rw [h0] at h1; cases h1
      clear hsb hb7 HO6 rr6
      go_wp2_with (first
        | (at_builtin; refine app_any _ _ 27 5 i0 (.int .u8 0) 1 1 Try.underlying27 hi hz0 hz1 hz2 rfl (by decide) rfl rfl rfl HO7.out rfl HSB7.out hnl (fun u hu => bcells_one hu) ?c1 ?c2 HB7.out.size ?_))
      case c1 => simp only [maxLen]; omega
      case c2 => omega
      intro v8 w8 ho8 hb8
      rw [← bcells_add, List.cons_append, ← HEN.out, show 1 + 22 * i + 22 = 1 + 22 * (i + 1) by omega] at ho8
      have HO8 := Lib.hid ho8
      have HB8 := Lib.hid (HB7.out.trans hb8)
      clear ho8 hb8 HO7 HSB7
      go_wp2_with fail
      go_roundg (gk - 1)
      case measure => omega
      case rel => exact ⟨i + 1, by omega, by go_num, HO8, HB8⟩
    · have hni : (n : Int) ≤ i := by omega
      have hin : i = n := by omega
      rw [hin] at HO
      obtain ⟨xa9, xc9, rfl, _, _, hxs9⟩ := Sl.own HO.out
      have HX9 := Lib.hid hxs9
      have HP9 := Lib.hid (HSP5.out.keep HBr.out)
      have HBB := Lib.hid (HB5.out.trans (HBr.out.mono HB5.out.size))
      clear hxs9 HO
      go_wp2_with fail
      refine (list_full pa n pc L _ hl.out hln HOK.out HF.out HP9.out HPC.out).mono ?_
      rintro e wa ⟨xb, xbc, rfl, hxb, hba⟩
      have HXB := Lib.hid hxb
      have cva := conv_bytes (HP9.out.keep hba) pc
      have cvb := conv_bytes (HX9.out.keep hba) xc9
      have HBa := Lib.hid (HBB.out.trans (hba.mono HBB.out.size))
      have HSa := Lib.hid (HS.out.keep HBa.out)
      clear hxb hba HX9 HP9
      go_wp2_with fail
      refine (changes_same xb a n xbc c L _ HXB.out HSa.out (by omega) HF.out).mono ?_
      rintro e wb ⟨rfl, hbb⟩
      go_wp2_with fail
      go_ret
      exact ⟨rfl, HBa.out.trans (hbb.mono HBa.out.size)⟩
theorem lists_law (v0 v1 : Value) (w : World) (h0 : Arg Try.prog w 39 v0) (h1 : Arg Try.prog w 27 v1) : Calls Try.prog 5 #[v0, v1] w fun e w' => e = .returned (.bool true) ∧ Below w.heap.size w w' := by
  obtain ⟨a, n0, c, L0, rfl, hnc, hc, hs0, hf0⟩ := h0.chgs
  obtain ⟨ba, nb, cb, bs, rfl, hbc, hcb, hnb, hbl, hsb⟩ := h1.bytes
  have hs := hs0.few9 (m := min n0 60) (Nat.min_le_left _ _)
  have hf : ∀ k, fits ((L0.take (min n0 60 * 9)).getD k 0) = true := fun k => take_get9 (hf0 k)
  have hl : (L0.take (min n0 60 * 9)).length = min n0 60 * 9 := by have := hs.1; rwa [ints_len] at this
  generalize L0.take (min n0 60 * 9) = L at *
  have hnn : min n0 60 = min n0 60 := rfl
  -- what the octets are
  have hB : (∀ w', Below w.heap.size w w' → Calls Try.prog 18 #[.slice ba nb cb] w' fun e w'' => e = .returned (.tuple #[.slice none 0 0, .int .i64 16]) ∧ Below w'.heap.size w' w'') ∨
      ∃ (k : Nat) (X : List Int), k ≤ 48 ∧ (∀ i, i < k → mayC (chAt X i) = true) ∧ UInt8.ofNat k :: encTo X k = bs ∧ nb = 1 + 22 * k ∧ (∀ w', Below w.heap.size w w' → Calls Try.prog 18 #[.slice ba nb cb] w' fun e w'' => ∃ v, e = .returned (.tuple #[v, .int .i64 0]) ∧ w''.ownsRow w'.heap.size 25 9 v k (ints X) ∧ Below w'.heap.size w' w'') := by
    by_cases hb0 : nb = 0
    · subst hb0
      exact Or.inl fun w' _ => (list_empty ba cb w').mono fun e w'' h => ⟨h.1, by rw [← h.2]; exact Below.refl _ _⟩
    · by_cases h48 : (bs.getD 0 0).toNat ≤ 48
      · by_cases hln : nb = 1 + 22 * (bs.getD 0 0).toNat
        · obtain ⟨k, hk⟩ : ∃ k, (bs.getD 0 0).toNat = k := ⟨_, rfl⟩
          rw [hk] at h48 hln
          rcases first_bad (fun i => okSeg (seg9 bs i)) k with hok | ⟨j, hj, hok, hno⟩
          · refine Or.inr ⟨k, decTo bs k, h48, fun i hi => ?_, list_back (by omega) (by omega) hk hok, hln, fun w' hb => ?_⟩
            · rw [chAt_decTo bs k i hi]
              exact (forth_dec _ (seg9_len (k := k) (by omega) hi) (hok i hi)).2
            · by_cases hk0 : k = 0
              · subst hk0
                subst hln
                refine (list_zero ba cb bs w' (hsb.keep hb) hbc hk).mono ?_
                rintro e w'' ⟨rfl, rfl⟩
                exact ⟨_, rfl, World.ownsRow_nil _ _ _ _, Below.refl _ _⟩
              · exact list_yes ba nb cb k bs w' (hsb.keep hb) hbc hcb h48 (by omega) hk hln hok
          · exact Or.inl fun w' hb => list_no ba nb cb k bs w' (hsb.keep hb) hbc hcb h48 (by omega) hk hln j hj hok hno
        · exact Or.inl fun w' hb => (list_len ba nb cb bs w' (hsb.keep hb) (by omega) h48 hln).mono fun e w'' h => ⟨h.1, by rw [← h.2]; exact Below.refl _ _⟩
      · exact Or.inl fun w' hb => (list_big ba nb cb bs w' (hsb.keep hb) (by omega) (by omega)).mono fun e w'' h => ⟨h.1, by rw [← h.2]; exact Below.refl _ _⟩
  rcases hB with hbad | ⟨k, X, hk, hX, hE, hnb2, hgood⟩
  · by_cases h48 : 48 < min n0 60
    · exact lists_bad_long a ba n0 _ c nb cb L w hs hnn hnc hf h48 (Lib.hid hbad)
    · rcases first_bad (fun i => mayC (chAt L i)) (min n0 60) with hok | ⟨j, hj, hok, hno⟩
      · exact lists_bad_yes a ba n0 _ c nb cb L w hs hnn hnc hf (by omega) hok (Lib.hid hbad)
      · exact lists_bad_no a ba n0 _ c nb cb L w hs hnn hnc hf (by omega) j hj hok hno (Lib.hid hbad)
  · by_cases h48 : 48 < min n0 60
    · exact lists_good_long a ba n0 _ c nb cb L w hs hnn hnc hf h48 k X bs hk hX hE hnb2 hsb (Lib.hid hgood)
    · rcases first_bad (fun i => mayC (chAt L i)) (min n0 60) with hok | ⟨j, hj, hok, hno⟩
      · exact lists_good_yes a ba n0 _ c nb cb L w hs hnn hnc hf (by omega) hok k X bs hk hX hE hnb2 hsb (Lib.hid hgood)
      · exact lists_good_no a ba n0 _ c nb cb L w hs hnn hnc hf (by omega) j hj hok hno k X bs hk hX hE hnb2 hsb (Lib.hid hgood)
end Go.Proofs.Ytalbkpahphndiaa
