/- The statements of changes: their octets. -/
import Derived.Test.YtalbkpahphndiaaChg8
import Derived.Test.YtalbkpahphndiaaChg6
import Derived.Test.YtalbkpahphndiaaChg4
import Derived.Test.YtalbkpahphndiaaMath9
import Derived.Test.YtalbkpahphndiaaChgEq
import Derived.Test.YtalbkpahphndiaaLaw02
import Derived.Test.YtalbkpahphndiaaHeld
import Derived.Test.YtalbkpahphndiaaRd
import Derived.Test.YtalbkpahphndiaaOct
import Derived.Test.YtalbkpahphndiaaApp
import Derived.Test.YtalbkpahphndiaaRow
import Derived.Test.YtalbkpahphndiaaOps
import Derived.RegionTactic
import Derived.BigRegion
import Derived.ChangeAlike
namespace Go.Proofs.Ytalbkpahphndiaa
set_option linter.unusedVariables false
set_option linter.unusedSimpArgs false
open Go.ChangeShapes Go.WideShapes Go.ChangeAt Go.RowKit
theorem get_enc {r s t k a b n p q : Int} (hm : mayChg r s t k a b p q = true) (hn : fits n = true) (a' : Option Addr) (c' : Nat) (w : World) (h : Sl w a' 22 1 (bcells (encOf r s t k a b n p q))) :
    Calls Try.prog 13 #[.slice a' 22 c'] w fun e w' => e = .returned (.tuple #[.agg (ints [r, s, t, k, a, b, n, p, q]).toArray, .int .i64 0]) ∧ Below w.heap.size w w' := by
  have E := dec_enc hm hn
  have E2 := E
  simp only [List.cons.injEq, and_true] at E2
  obtain ⟨e0, e1, e2, e3, e4, e5, e6, e7, e8⟩ := E2
  have := get_ok a' c' (encOf r s t k a b n p q) w h (enc_last r s t k a b n p q) (by rw [e0, e1, e2, e3, e4, e5, e7, e8]; exact hm)
  rwa [E] at this
theorem all_nil (w : World) : Calls Try.prog 17 #[.slice none 0 0] w fun e w' => ∃ a c, e = .returned (.tuple #[.slice a 1 c, .int .i64 0]) ∧ Sl w' a 1 1 (bcells [0]) ∧ Below w.heap.size w w' := by
  have HB := Lib.hid ((Below.refl w.heap.size w).alloc (Nat.le_refl _) (.cells #[.int .u8 0] 5))
  have HS := Lib.hid (lit_sl w [.int .u8 0] (by decide))
  have HB2 := Lib.hid (HB.out.alloc HB.out.size (.cells #[.int .i64 0, .int .i64 0, .int .i64 0, .int .i64 0, .int .i64 0, .int .i64 0, .int .i64 0, .int .i64 0, .int .i64 0] 25))
  have HS2 := Lib.hid (HS.out.keep ((Below.refl _ _).alloc (Nat.le_refl _) (.cells #[.int .i64 0, .int .i64 0, .int .i64 0, .int .i64 0, .int .i64 0, .int .i64 0, .int .i64 0, .int .i64 0, .int .i64 0] 25)))
  go_enter Try.func17, Try.ntmps17
  go_wp2_with fail
  go_loopg [4, 18] 0 (fun q s4 s18 wr => q = 0 ∧ s4 = .slice (some ⟨w.heap.size, 0, none⟩) 1 1 ∧ s18 = .int .i64 0 ∧ Hid (Below w.heap.size w wr) ∧ Hid (Sl wr (some ⟨w.heap.size, 0, none⟩) 1 1 (bcells [0])))
  case atStart => exact ⟨rfl, rfl, rfl, by first | exact HB | exact HB2, by first | exact HS | exact HS2⟩
  case round =>
    obtain ⟨_, rfl, rfl, hb, hs⟩ := hrel
    go_wp2_with fail
    go_ret2
    exact ⟨_, _, rfl, hs.out, hb.out⟩
set_option maxRecDepth 100000 in
set_option maxHeartbeats 4000000 in
theorem alive09 (w : World) : Calls Try.prog 9 #[] w fun e w' => e = .returned (.bool true) ∧ Below w.heap.size w w' := by
  have A := Lib.hid (Blk.new w #[.int .i64 1, .int .i64 2, .int .i64 3, .int .i64 4, .int .i64 0, .int .i64 0, .int .i64 (-5), .int .i64 0, .int .i64 0] 25)
  have HB := Lib.hid ((Below.refl w.heap.size w).alloc (Nat.le_refl _) (.cells #[.int .i64 1, .int .i64 2, .int .i64 3, .int .i64 4, .int .i64 0, .int .i64 0, .int .i64 (-5), .int .i64 0, .int .i64 0] 25))
  have P := Lib.hid (fun w => cput_yes 1 2 3 4 0 0 (-5) 0 0 w (by decide))
  have G := Lib.hid (fun a' c' w h => show Calls Try.prog 13 #[.slice a' 22 c'] w fun e w' => e = .returned (.tuple #[.agg #[.int .i64 1, .int .i64 2, .int .i64 3, .int .i64 4, .int .i64 0, .int .i64 0, .int .i64 (-5), .int .i64 0, .int .i64 0], .int .i64 0]) ∧ Below w.heap.size w w' from get_enc (r := 1) (s := 2) (t := 3) (k := 4) (a := 0) (b := 0) (n := -5) (p := 0) (q := 0) (by decide) (by decide) a' c' w h)
  have K := Lib.hid (fun w => show Calls Try.prog 12 #[.agg #[.int .i64 0, .int .i64 0, .int .i64 0, .int .i64 0, .int .i64 0, .int .i64 0, .int .i64 0, .int .i64 0, .int .i64 0]] w fun e w' => e = .returned (.int .i64 4) ∧ Below w.heap.size w w' from chk_any 0 0 0 0 0 0 0 0 0 w)
  go_enter Try.func9, Try.ntmps9
  go_upto_region 2 with fail
  have hz : w.heap.size < (w.alloc (.cells #[.int .i64 1, .int .i64 2, .int .i64 3, .int .i64 4, .int .i64 0, .int .i64 0, .int .i64 (-5), .int .i64 0, .int .i64 0] 25)).heap.size := by simp
  generalize w.alloc (.cells #[.int .i64 1, .int .i64 2, .int .i64 3, .int .i64 4, .int .i64 0, .int .i64 0, .int .i64 (-5), .int .i64 0, .int .i64 0] 25) = W at *
  have ra : W.rangeAt w.heap.size 0 (ints [1, 2, 3, 4, 0, 0, -5, 0, 0]) := Blk.cg A.out (Lib.hid rfl)
  have k0 := A.out.cell 0
  have k1 := A.out.cell 1
  have k2 := A.out.cell 2
  have k3 := A.out.cell 3
  have k4 := A.out.cell 4
  have k5 := A.out.cell 5
  have k6 := A.out.cell 6
  have k7 := A.out.cell 7
  have k8 := A.out.cell 8
  go_wp2_with fail
  refine (P.out _).mono ?_
  rintro e w2 ⟨a', c', rfl, hs, hb2⟩
  have HB2 := Lib.hid (HB.out.trans (hb2.mono HB.out.size))
  have A2 := Lib.hid (A.out.keep hb2 hz)
  have HS2 := Lib.hid hs
  clear k0 k1 k2 k3 k4 k5 k6 k7 k8 hs hb2 ra A HB
  go_wp2_with fail
  refine (G.out a' c' w2 HS2.out).mono ?_
  rintro e w3 ⟨rfl, hb3⟩
  have HB3 := Lib.hid (HB2.out.trans (hb3.mono HB2.out.size))
  have A3 := Lib.hid (A2.out.keep hb3 A2.out.lt)
  clear hb3 A2 HB2
  go_upto_region 4 with fail
  have D := Lib.hid (Blk.new w3 #[.int .i64 1, .int .i64 2, .int .i64 3, .int .i64 4, .int .i64 0, .int .i64 0, .int .i64 (-5), .int .i64 0, .int .i64 0] 25)
  have HBd := Lib.hid (HB3.out.alloc HB3.out.size (.cells #[.int .i64 1, .int .i64 2, .int .i64 3, .int .i64 4, .int .i64 0, .int .i64 0, .int .i64 (-5), .int .i64 0, .int .i64 0] 25))
  have Ad := Lib.hid (A3.out.alloc (.cells #[.int .i64 1, .int .i64 2, .int .i64 3, .int .i64 4, .int .i64 0, .int .i64 0, .int .i64 (-5), .int .i64 0, .int .i64 0] 25))
  have hlt := A3.out.lt
  clear A3 HB3
  generalize hgd : w3.heap.size = gd at *
  generalize w3.alloc (.cells #[.int .i64 1, .int .i64 2, .int .i64 3, .int .i64 4, .int .i64 0, .int .i64 0, .int .i64 (-5), .int .i64 0, .int .i64 0] 25) = w4 at *
  clear hgd
  go_wp2_with fail
  refine (all_nil _).mono ?_
  rintro e w5 ⟨a5, c5, rfl, hs5, hb5⟩
  have HB5 := Lib.hid (HBd.out.trans (hb5.mono HBd.out.size))
  have A5 := Lib.hid (Ad.out.keep hb5 Ad.out.lt)
  have D5 := Lib.hid (D.out.keep hb5 D.out.lt)
  clear hb5 Ad D HBd hs5
  have ra : w5.rangeAt w.heap.size 0 (ints [1, 2, 3, 4, 0, 0, -5, 0, 0]) := Blk.cg A5.out (Lib.hid rfl)
  have rd : w5.rangeAt gd 0 (ints [1, 2, 3, 4, 0, 0, -5, 0, 0]) := Blk.cg D5.out (Lib.hid rfl)
  have ok1 := ok9 [1, 2, 3, 4, 0, 0, -5, 0, 0] (by intro k; rcases k with _ | _ | _ | _ | _ | _ | _ | _ | _ | k <;> rfl)
  have h9 : Hid (([1, 2, 3, 4, 0, 0, -5, 0, 0] : List Int).length = 9) := Lib.hid rfl
  go_wp2_with (first
    | ((with_reducible apply cg_load); (· rfl); (· (first | assumption)); (· assumption); (simp only [Act.put, List.setIfInBounds_toArray, List.set_cons_zero, List.set_cons_succ]))
    | ((with_reducible apply cg_load_g); (· rfl); (· rfl); (· (first | assumption)); (· assumption); (simp only [Act.put, List.setIfInBounds_toArray, List.set_cons_zero, List.set_cons_succ]))
    | ((with_reducible apply cg_eql_g); (· rfl); (· rfl); (· rfl); (· assumption); (simp only [Act.put, List.setIfInBounds_toArray, List.set_cons_zero, List.set_cons_succ])))
  refine (K.out _).mono ?_
  rintro e w6 ⟨rfl, hb6⟩
  go_wp2_with fail
  go_ret
  exact ⟨rfl, HB5.out.trans (hb6.mono HB5.out.size)⟩
set_option maxRecDepth 100000 in
set_option maxHeartbeats 8000000 in
theorem puts_walk (r s t k a b n p q : Int) (w : World) (hf : ∀ j, fits (([r, s, t, k, a, b, n, p, q] : List Int).getD j 0) = true) :
    Calls Try.prog 3 #[.agg #[.int .i64 r, .int .i64 s, .int .i64 t, .int .i64 k, .int .i64 a, .int .i64 b, .int .i64 n, .int .i64 p, .int .i64 q]] w fun e w' => e = .returned (.bool true) ∧ Below w.heap.size w w' := by
  have A := Lib.hid (Blk.new w #[.int .i64 r, .int .i64 s, .int .i64 t, .int .i64 k, .int .i64 a, .int .i64 b, .int .i64 n, .int .i64 p, .int .i64 q] 25)
  have HB := Lib.hid ((Below.refl w.heap.size w).alloc (Nat.le_refl _) (.cells #[.int .i64 r, .int .i64 s, .int .i64 t, .int .i64 k, .int .i64 a, .int .i64 b, .int .i64 n, .int .i64 p, .int .i64 q] 25))
  have ok1 : OkAll (List.replicate 9 (some .i64)) (ints [r, s, t, k, a, b, n, p, q]) := ok9 [r, s, t, k, a, b, n, p, q] hf
  have h9 : Hid (([r, s, t, k, a, b, n, p, q] : List Int).length = 9) := Lib.hid rfl
  have hfn : fits n = true := hf 6
  have M := Lib.hid (fun w => rmayc_any r s t k a b n p q w)
  have CK := Lib.hid (fun w => chk_any r s t k a b n p q w)
  clear hf
  go_enter Try.func3, Try.ntmps3
  go_upto_region 1 with fail
  have hz : w.heap.size < (w.alloc (.cells #[.int .i64 r, .int .i64 s, .int .i64 t, .int .i64 k, .int .i64 a, .int .i64 b, .int .i64 n, .int .i64 p, .int .i64 q] 25)).heap.size := by simp
  generalize w.alloc (.cells #[.int .i64 r, .int .i64 s, .int .i64 t, .int .i64 k, .int .i64 a, .int .i64 b, .int .i64 n, .int .i64 p, .int .i64 q] 25) = W at *
  go_wp2_with fail
  refine (alive09 _).mono ?_
  rintro e w2 ⟨rfl, hb2⟩
  have HB2 := Lib.hid (HB.out.trans (hb2.mono HB.out.size))
  have A2 := Lib.hid (A.out.keep hb2 hz)
  have ra : w2.rangeAt w.heap.size 0 (ints [r, s, t, k, a, b, n, p, q]) := Blk.cg A2.out h9
  clear hb2 A HB hz
  rcases hm : mayChg r s t k a b p q with _ | _
  · have P : Hid (∀ w, Calls Try.prog 10 #[.agg (ints [r, s, t, k, a, b, n, p, q]).toArray] w fun e w' => e = .returned (.tuple #[.slice none 0 0, .int .i64 4]) ∧ Below w.heap.size w w') := Lib.hid (fun w => cput_no r s t k a b n p q w hm)
    have E : chkChg r s t k a b p q = 4 := by unfold chkChg; rw [hm]; rfl
    rw [E] at CK
    rw [hm] at M
    have CK1 : Hid (∀ w, Calls Try.prog 12 #[.agg (ints [r, s, t, k, a, b, n, p, q]).toArray] w fun e w' => e = .returned (.int .i64 4) ∧ Below w.heap.size w w') := CK
    have M1 : Hid (∀ w, Calls Try.prog 11 #[.agg (ints [r, s, t, k, a, b, n, p, q]).toArray] w fun e w' => e = .returned (.bool false) ∧ Below w.heap.size w w') := M
    clear E hm hfn CK M
    have A2 : Hid (Blk w2 w.heap.size (ints [r, s, t, k, a, b, n, p, q]) 25) := A2
    generalize [r, s, t, k, a, b, n, p, q] = X at *
    go_wp2_with (first
      | ((with_reducible apply cg_load); (· rfl); (· (first | assumption)); (· assumption); (simp only [Act.put, List.setIfInBounds_toArray, List.set_cons_zero, List.set_cons_succ])))
    refine (P.out _).mono ?_
    rintro e w3 ⟨rfl, hb3⟩
    have HB3 := Lib.hid (HB2.out.trans (hb3.mono HB2.out.size))
    have A3 := Lib.hid (A2.out.keep hb3 A2.out.lt)
    have ra3 : w3.rangeAt w.heap.size 0 (ints X) := Blk.cg A3.out h9
    clear hb3 A2 HB2 ra
    go_wp2_with (first
      | ((with_reducible apply cg_load); (· rfl); (· (first | assumption)); (· assumption); (simp only [Act.put, List.setIfInBounds_toArray, List.set_cons_zero, List.set_cons_succ])))
    refine (M1.out _).mono ?_
    rintro e w4 ⟨rfl, hb4⟩
    have HB4 := Lib.hid (HB3.out.trans (hb4.mono HB3.out.size))
    have A4 := Lib.hid (A3.out.keep hb4 A3.out.lt)
    have ra4 : w4.rangeAt w.heap.size 0 (ints X) := Blk.cg A4.out h9
    clear hb4 A3 HB3 ra3
    go_wp2_with (first
      | ((with_reducible apply cg_load); (· rfl); (· (first | assumption)); (· assumption); (simp only [Act.put, List.setIfInBounds_toArray, List.set_cons_zero, List.set_cons_succ])))
    refine (CK1.out _).mono ?_
    rintro e w5 ⟨rfl, hb5⟩
    have HB5 := Lib.hid (HB4.out.trans (hb5.mono HB4.out.size))
    have A5 := Lib.hid (A4.out.keep hb5 A4.out.lt)
    have ra5 : w5.rangeAt w.heap.size 0 (ints X) := Blk.cg A5.out h9
    clear hb5 A4 HB4 ra4
    go_wp2_with fail
    go_ret
    exact ⟨rfl, HB5.out⟩
  · have P : Hid (∀ w, Calls Try.prog 10 #[.agg (ints [r, s, t, k, a, b, n, p, q]).toArray] w fun e w' => ∃ a' c', e = .returned (.tuple #[.slice a' 22 c', .int .i64 0]) ∧ Sl w' a' 22 1 (bcells (encOf r s t k a b n p q)) ∧ Below w.heap.size w w') := Lib.hid (fun w => cput_yes r s t k a b n p q w hm)
    have E : chkChg r s t k a b p q = 0 := by unfold chkChg; rw [hm]; rfl
    have G := Lib.hid (fun a' c' w h => get_enc (r := r) (s := s) (t := t) (k := k) (a := a) (b := b) (n := n) (p := p) (q := q) hm hfn a' c' w h)
    have RP : Hid (∀ w, Calls Try.prog 14 #[.agg (ints [r, s, t, k, a, b, n, p, q]).toArray] w fun e w' => ∃ a' c', e = .returned (.slice a' 22 c') ∧ Sl w' a' 22 1 (bcells (encOf r s t k a b n p q)) ∧ Below w.heap.size w w') := Lib.hid (fun w => rputc_any r s t k a b n p q w)
    rw [E] at CK
    rw [hm] at M
    have CK1 : Hid (∀ w, Calls Try.prog 12 #[.agg (ints [r, s, t, k, a, b, n, p, q]).toArray] w fun e w' => e = .returned (.int .i64 0) ∧ Below w.heap.size w w') := CK
    have M1 : Hid (∀ w, Calls Try.prog 11 #[.agg (ints [r, s, t, k, a, b, n, p, q]).toArray] w fun e w' => e = .returned (.bool true) ∧ Below w.heap.size w w') := M
    clear E hm hfn CK M
    have A2 : Hid (Blk w2 w.heap.size (ints [r, s, t, k, a, b, n, p, q]) 25) := A2
    generalize [r, s, t, k, a, b, n, p, q] = X at *
    generalize encOf r s t k a b n p q = bs at *
    go_wp2_with (first
      | ((with_reducible apply cg_load); (· rfl); (· (first | assumption)); (· assumption); (simp only [Act.put, List.setIfInBounds_toArray, List.set_cons_zero, List.set_cons_succ])))
    refine (P.out _).mono ?_
    rintro e w3 ⟨a', c', rfl, hs3, hb3⟩
    have HB3 := Lib.hid (HB2.out.trans (hb3.mono HB2.out.size))
    have A3 := Lib.hid (A2.out.keep hb3 A2.out.lt)
    have ra3 : w3.rangeAt w.heap.size 0 (ints X) := Blk.cg A3.out h9
    have HS3 := Lib.hid hs3
    clear hs3
    clear hb3 A2 HB2 ra
    go_wp2_with (first
      | ((with_reducible apply cg_load); (· rfl); (· (first | assumption)); (· assumption); (simp only [Act.put, List.setIfInBounds_toArray, List.set_cons_zero, List.set_cons_succ])))
    refine (M1.out _).mono ?_
    rintro e w4 ⟨rfl, hb4⟩
    have HB4 := Lib.hid (HB3.out.trans (hb4.mono HB3.out.size))
    have A4 := Lib.hid (A3.out.keep hb4 A3.out.lt)
    have ra4 : w4.rangeAt w.heap.size 0 (ints X) := Blk.cg A4.out h9
    have HS4 := Lib.hid (HS3.out.keep hb4)
    clear HS3
    clear hb4 A3 HB3 ra3
    go_wp2_with (first
      | ((with_reducible apply cg_load); (· rfl); (· (first | assumption)); (· assumption); (simp only [Act.put, List.setIfInBounds_toArray, List.set_cons_zero, List.set_cons_succ])))
    refine (G.out a' c' w4 HS4.out).mono ?_
    rintro e w5 ⟨rfl, hb5⟩
    have HB5 := Lib.hid (HB4.out.trans (hb5.mono HB4.out.size))
    have A5 := Lib.hid (A4.out.keep hb5 A4.out.lt)
    have ra5 : w5.rangeAt w.heap.size 0 (ints X) := Blk.cg A5.out h9
    have HS5 := Lib.hid (HS4.out.keep hb5)
    clear HS4
    clear hb5 A4 HB4 ra4
    have D5 := Lib.hid (Blk.new w5 (ints X).toArray 25)
    have A6 := Lib.hid (A5.out.alloc (.cells (ints X).toArray 25))
    have HB6 := Lib.hid (HB5.out.alloc HB5.out.size (.cells (ints X).toArray 25))
    have HS6 := Lib.hid (HS5.out.keep ((Below.refl _ _).alloc (Nat.le_refl _) (.cells (ints X).toArray 25)))
    rw [List.toList_toArray] at D5
    clear HS5 A5 HB5 ra5
    go_upto_region 7 with (first
      | ((with_reducible apply cg_store_new); (· rfl); (· first | rfl | simp); (· rfl); (· rfl); (· assumption); (simp only [Act.put, List.setIfInBounds_toArray, List.set_cons_zero, List.set_cons_succ])))
    generalize w5.alloc (.cells (ints X).toArray 25) = w6 at *
    generalize w5.heap.size = gd at *
    refine held_begin (fun w' => Below w6.heap.size w6 w') 25 [false, false, false, false, false, false, false, false, false, false, false, false, false, false, false, false, false, false, false, false, false, false, false, false, false] (by kernel_rfl) rfl (by rfl) ?_
    have hHeld : Below w6.heap.size w6 w6.drew := (Below.refl _ _).drew
    refine held_take 0 34 [true, false, false, false, false, false, false, false, false, false, false, false, false, false, false, false, false, false, false, false, false, false, false, false, false] rfl (by rfl) (by rfl) (by kernel_rfl) (by kernel_rfl) (by kernel_rfl) (by rfl) (fun _ _ _ h => h) (fun w' h => run_op_load rfl rfl (Blk.cg (A6.out.keep h A6.out.lt) h9) Try.underlying25 rfl (by rw [cg_size, ints_len, h9.out])) hHeld ?_
    simp only [Act.put, List.setIfInBounds_toArray, List.set_cons_zero, List.set_cons_succ]
    refine held_call 1 35 [true, true, false, false, false, false, false, false, false, false, false, false, false, false, false, false, false, false, false, false, false, false, false, false, false] (by kernel_rfl) rfl (by rfl) (by rfl) (by rfl) (by go_simp) ((CK1.out _).mono ?_)
    rintro e w7 ⟨rfl, hb7⟩
    refine ⟨_, rfl, hHeld.trans (hb7.mono hHeld.size), fun hHeld => ?_⟩
    simp only [Act.put, List.setIfInBounds_toArray, List.set_cons_zero, List.set_cons_succ]
    have hHeld : Below w6.heap.size w6 _ := hHeld
    refine held_take (v := .bool true) 2 36 [true, true, true, false, false, false, false, false, false, false, false, false, false, false, false, false, false, false, false, false, false, false, false, false, false] rfl (by rfl) (by rfl) (by kernel_rfl) (by kernel_rfl) (by kernel_rfl) (by rfl) (fun _ _ _ h => h) (fun w h => by go_simp) hHeld ?_
    simp only [Act.put, List.setIfInBounds_toArray, List.set_cons_zero, List.set_cons_succ]
    refine held_take (v := ?_) 3 37 [true, true, true, true, false, false, false, false, false, false, false, false, false, false, false, false, false, false, false, false, false, false, false, false, false] rfl (by rfl) (by rfl) (by kernel_rfl) (by kernel_rfl) (by kernel_rfl) (by rfl) (fun _ _ _ h => h) ?_ hHeld ?_
    rotate_left
    · intro w hSw; go_simp <;> with_reducible rfl
    simp only [Act.put, List.setIfInBounds_toArray, List.set_cons_zero, List.set_cons_succ]
    refine held_take (v := ?_) 4 38 [true, true, true, true, true, false, false, false, false, false, false, false, false, false, false, false, false, false, false, false, false, false, false, false, false] rfl (by rfl) (by rfl) (by kernel_rfl) (by kernel_rfl) (by kernel_rfl) (by rfl) (fun _ _ _ h => h) ?_ hHeld ?_
    rotate_left
    · intro w hSw; go_simp <;> with_reducible rfl
    simp only [Act.put, List.setIfInBounds_toArray, List.set_cons_zero, List.set_cons_succ]
    refine held_take (v := .bool true) 5 39 [true, true, true, true, true, true, false, false, false, false, false, false, false, false, false, false, false, false, false, false, false, false, false, false, false] rfl (by rfl) (by rfl) (by kernel_rfl) (by kernel_rfl) (by kernel_rfl) (by rfl) (fun _ _ _ h => h) (fun w h => by go_simp) hHeld ?_
    simp only [Act.put, List.setIfInBounds_toArray, List.set_cons_zero, List.set_cons_succ]
    refine held_take (v := .bool true) 6 40 [true, true, true, true, true, true, true, false, false, false, false, false, false, false, false, false, false, false, false, false, false, false, false, false, false] rfl (by rfl) (by rfl) (by kernel_rfl) (by kernel_rfl) (by kernel_rfl) (by rfl) (fun _ _ _ h => h) (fun w h => by go_simp) hHeld ?_
    simp only [Act.put, List.setIfInBounds_toArray, List.set_cons_zero, List.set_cons_succ]
    refine held_take (v := ?_) 7 41 [true, true, true, true, true, true, true, true, false, false, false, false, false, false, false, false, false, false, false, false, false, false, false, false, false] rfl (by rfl) (by rfl) (by kernel_rfl) (by kernel_rfl) (by kernel_rfl) (by rfl) (fun _ _ _ h => h) ?_ hHeld ?_
    rotate_left
    · intro w hSw; go_simp <;> with_reducible rfl
    simp only [Act.put, List.setIfInBounds_toArray, List.set_cons_zero, List.set_cons_succ]
    refine held_take (v := ?_) 8 42 [true, true, true, true, true, true, true, true, true, false, false, false, false, false, false, false, false, false, false, false, false, false, false, false, false] rfl (by rfl) (by rfl) (by kernel_rfl) (by kernel_rfl) (by kernel_rfl) (by rfl) (fun _ _ _ h => h) ?_ hHeld ?_
    rotate_left
    · intro w hSw; go_simp <;> with_reducible rfl
    simp only [Act.put, List.setIfInBounds_toArray, List.set_cons_zero, List.set_cons_succ]
    refine held_take 9 43 [true, true, true, true, true, true, true, true, true, true, false, false, false, false, false, false, false, false, false, false, false, false, false, false, false] rfl (by rfl) (by rfl) (by kernel_rfl) (by kernel_rfl) (by kernel_rfl) (by rfl) (fun _ _ _ h => h) (fun w' h => run_op_conv rfl rfl (conv_bytes (HS6.out.keep h) _)) hHeld ?_
    simp only [Act.put, List.setIfInBounds_toArray, List.set_cons_zero, List.set_cons_succ]
    refine held_take 10 44 [true, true, true, true, true, true, true, true, true, true, true, false, false, false, false, false, false, false, false, false, false, false, false, false, false] rfl (by rfl) (by rfl) (by kernel_rfl) (by kernel_rfl) (by kernel_rfl) (by rfl) (fun _ _ _ h => h) (fun w' h => run_op_load rfl rfl (Blk.cg (A6.out.keep h A6.out.lt) h9) Try.underlying25 rfl (by rw [cg_size, ints_len, h9.out])) hHeld ?_
    simp only [Act.put, List.setIfInBounds_toArray, List.set_cons_zero, List.set_cons_succ]
    refine held_call 11 45 [true, true, true, true, true, true, true, true, true, true, true, true, false, false, false, false, false, false, false, false, false, false, false, false, false] (by kernel_rfl) rfl (by rfl) (by rfl) (by rfl) (by go_simp) ((RP.out _).mono ?_)
    rintro e w8 ⟨a8, c8, rfl, hs8, hb8⟩
    refine ⟨_, rfl, hHeld.trans (hb8.mono hHeld.size), fun hHeld => ?_⟩
    simp only [Act.put, List.setIfInBounds_toArray, List.set_cons_zero, List.set_cons_succ]
    have hHeld : Below w6.heap.size w6 _ := hHeld
    refine held_one 12 (by kernel_rfl) ?_
    refine op_value 46 [true, true, true, true, true, true, true, true, true, true, true, true, true, false, false, false, false, false, false, false, false, false, false, false, false] rfl (by rfl) (by rfl) (by rfl) (run_op_conv rfl rfl (conv_bytes hs8 _)) (hHeld) fun hHeld => ?_
    simp only [Act.put, List.setIfInBounds_toArray, List.set_cons_zero, List.set_cons_succ]
    refine held_take (v := .bool true) 13 47 [true, true, true, true, true, true, true, true, true, true, true, true, true, true, false, false, false, false, false, false, false, false, false, false, false] rfl (by rfl) (by rfl) (by kernel_rfl) (by kernel_rfl) (by kernel_rfl) (by rfl) (fun _ _ _ h => h) (fun w h => by go_simp) hHeld ?_
    simp only [Act.put, List.setIfInBounds_toArray, List.set_cons_zero, List.set_cons_succ]
    refine held_take (v := .bool true) 14 48 [true, true, true, true, true, true, true, true, true, true, true, true, true, true, true, false, false, false, false, false, false, false, false, false, false] rfl (by rfl) (by rfl) (by kernel_rfl) (by kernel_rfl) (by kernel_rfl) (by rfl) (fun _ _ _ h => h) (fun w h => by go_simp) hHeld ?_
    simp only [Act.put, List.setIfInBounds_toArray, List.set_cons_zero, List.set_cons_succ]
    refine held_take (v := ?_) 15 49 [true, true, true, true, true, true, true, true, true, true, true, true, true, true, true, true, false, false, false, false, false, false, false, false, false] rfl (by rfl) (by rfl) (by kernel_rfl) (by kernel_rfl) (by kernel_rfl) (by rfl) (fun _ _ _ h => h) ?_ hHeld ?_
    rotate_left
    · intro w hSw; go_simp <;> with_reducible rfl
    simp only [Act.put, List.setIfInBounds_toArray, List.set_cons_zero, List.set_cons_succ]
    refine held_take (v := ?_) 16 50 [true, true, true, true, true, true, true, true, true, true, true, true, true, true, true, true, true, false, false, false, false, false, false, false, false] rfl (by rfl) (by rfl) (by kernel_rfl) (by kernel_rfl) (by kernel_rfl) (by rfl) (fun _ _ _ h => h) ?_ hHeld ?_
    rotate_left
    · intro w hSw; go_simp <;> with_reducible rfl
    simp only [Act.put, List.setIfInBounds_toArray, List.set_cons_zero, List.set_cons_succ]
    refine held_take (v := .bool true) 17 51 [true, true, true, true, true, true, true, true, true, true, true, true, true, true, true, true, true, true, false, false, false, false, false, false, false] rfl (by rfl) (by rfl) (by kernel_rfl) (by kernel_rfl) (by kernel_rfl) (by rfl) (fun _ _ _ h => h) (fun w h => by go_simp) hHeld ?_
    simp only [Act.put, List.setIfInBounds_toArray, List.set_cons_zero, List.set_cons_succ]
    refine held_take (v := .bool true) 18 52 [true, true, true, true, true, true, true, true, true, true, true, true, true, true, true, true, true, true, true, false, false, false, false, false, false] rfl (by rfl) (by rfl) (by kernel_rfl) (by kernel_rfl) (by kernel_rfl) (by rfl) (fun _ _ _ h => h) (fun w h => by go_simp) hHeld ?_
    simp only [Act.put, List.setIfInBounds_toArray, List.set_cons_zero, List.set_cons_succ]
    refine held_take (v := ?_) 19 53 [true, true, true, true, true, true, true, true, true, true, true, true, true, true, true, true, true, true, true, true, false, false, false, false, false] rfl (by rfl) (by rfl) (by kernel_rfl) (by kernel_rfl) (by kernel_rfl) (by rfl) (fun _ _ _ h => h) ?_ hHeld ?_
    rotate_left
    · intro w hSw; go_simp <;> with_reducible rfl
    simp only [Act.put, List.setIfInBounds_toArray, List.set_cons_zero, List.set_cons_succ]
    refine held_take 20 54 [true, true, true, true, true, true, true, true, true, true, true, true, true, true, true, true, true, true, true, true, true, false, false, false, false] rfl (by rfl) (by rfl) (by kernel_rfl) (by kernel_rfl) (by kernel_rfl) (by rfl) (fun _ _ _ h => h) (fun w' h => run_op_load rfl rfl (Blk.cg (D5.out.keep h D5.out.lt) h9) Try.underlying25 rfl (by rw [cg_size, ints_len, h9.out])) hHeld ?_
    simp only [Act.put, List.setIfInBounds_toArray, List.set_cons_zero, List.set_cons_succ]
    refine held_take 21 55 [true, true, true, true, true, true, true, true, true, true, true, true, true, true, true, true, true, true, true, true, true, true, false, false, false] rfl (by rfl) (by rfl) (by kernel_rfl) (by kernel_rfl) (by kernel_rfl) (by rfl) (fun _ _ _ h => h) (fun w' h => run_op_load rfl rfl (Blk.cg (A6.out.keep h A6.out.lt) h9) Try.underlying25 rfl (by rw [cg_size, ints_len, h9.out])) hHeld ?_
    simp only [Act.put, List.setIfInBounds_toArray, List.set_cons_zero, List.set_cons_succ]
    refine held_take 22 56 [true, true, true, true, true, true, true, true, true, true, true, true, true, true, true, true, true, true, true, true, true, true, true, false, false] rfl (by rfl) (by rfl) (by kernel_rfl) (by kernel_rfl) (by kernel_rfl) (by rfl) (fun _ _ _ h => h) (fun w h => run_op_cmp rfl rfl rfl (by kernel_rfl) (by rw [eql_flat 3 4 25 _ _ _ w flat9 (by kernel_rfl) (by kernel_rfl) (by kernel_rfl) (by decide) ok1 ok1, sameB_refl])) hHeld ?_
    simp only [Act.put, List.setIfInBounds_toArray, List.set_cons_zero, List.set_cons_succ]
    refine held_take (v := .bool true) 23 57 [true, true, true, true, true, true, true, true, true, true, true, true, true, true, true, true, true, true, true, true, true, true, true, true, false] rfl (by rfl) (by rfl) (by kernel_rfl) (by kernel_rfl) (by kernel_rfl) (by rfl) (fun _ _ _ h => h) (fun w h => by go_simp) hHeld ?_
    simp only [Act.put, List.setIfInBounds_toArray, List.set_cons_zero, List.set_cons_succ]
    refine held_take (v := ?_) 24 2 [true, true, true, true, true, true, true, true, true, true, true, true, true, true, true, true, true, true, true, true, true, true, true, true, true] rfl (by rfl) (by rfl) (by kernel_rfl) (by kernel_rfl) (by kernel_rfl) (by rfl) (fun _ _ _ h => h) ?_ hHeld ?_
    rotate_left
    · intro w hSw; go_simp <;> with_reducible rfl
    simp only [Act.put, List.setIfInBounds_toArray, List.set_cons_zero, List.set_cons_succ]
    refine held_done (by kernel_rfl) ?_
    go_wp2_with fail
    go_ret
    exact ⟨rfl, HB6.out.trans (hHeld.mono HB6.out.size)⟩
theorem puts_law (v0 : Value) (w : World) (h0 : Arg Try.prog w 25 v0) : Calls Try.prog 3 #[v0] w fun e w' => e = .returned (.bool true) ∧ Below w.heap.size w w' := by
  obtain ⟨cs, rfl, h2⟩ := h0.flat_struct Try.underlying25 flat9
  obtain ⟨l, h3, h4, h5⟩ := ints_of_ok 9 _ h2
  have hf : ∀ j, fits (l.getD j 0) = true := fun j => by
    by_cases hj : j < l.length
    · rw [List.getD_eq_getElem?_getD, List.getElem?_eq_getElem hj]
      exact fits_wf (h5 _ (List.getElem_mem hj))
    · rw [List.getD_eq_getElem?_getD, List.getElem?_eq_none (by omega)]; rfl
  match l, h3, h4, hf with
  | [r, s, t, k, a, b, n, p, q], _, h4, hf =>
    rw [show cs = cs.toList.toArray by simp, h4]
    exact puts_walk r s t k a b n p q w hf
end Go.Proofs.Ytalbkpahphndiaa
