/- Get of a record, out of what is read and what is written again. -/
import Derived.Test.YtfffbhkenggdcaaRec13
import Derived.Test.YtfffbhkenggdcaaLaw02c
import Derived.Test.YtfffbhkenggdcaaRow
import Derived.Test.YtfffbhkenggdcaaOps
import Derived.Test.YtfffbhkenggdcaaEq
import Derived.Test.YtfffbhkenggdcaaChgOps
import Derived.RegionTactic
import Derived.BigRegion
import Derived.ChangeAlike
namespace Go.Proofs.Ytfffbhkenggdcaa
set_option linter.unusedVariables false
set_option linter.unusedSimpArgs false
open Go.ChangeShapes Go.WideShapes Go.ChangeAt Go.RowKit
set_option maxHeartbeats 2000000 in
theorem beq_any (a b : Option Addr) (n m c d : Nat) (xs ys : List UInt8) (w : World) (h1 : Sl w a n 1 (bcells xs)) (h2 : Sl w b m 1 (bcells ys)) :
    Calls Try.prog 17 #[.slice a n c, .slice b m d] w fun e w' => e = .returned (.bool (decide (xs = ys))) ∧ Below w.heap.size w w' := by
  have k1 := conv_bytes h1 c
  have k2 := conv_bytes h2 d
  clear h1 h2
  go_enter Try.func17, Try.ntmps17
  go_wp2_with fail
  go_ret
  refine ⟨?_, Below.refl _ _⟩
  have hd : (xs == ys) = decide (xs = ys) := by rw [Bool.eq_iff_iff]; simp
  rw [← hd]
  rfl
theorem rc_storeZ {t t' g T : Nat} {ty : TypeId} {ps : String} {af : Array Edge} {a : Act} {w : World} {ops : Array Oper} {rest : List Oper} {Q : Exit → Act → World → Prop} {old : List Value}
    (hx : a.eval (.tmp t) = .pointer (some ⟨g, 0, none⟩)) (hy : a.eval (.tmp t') = .agg #[.int .i64 0, .int .i64 0, .int .i64 0, .int .i64 0, .int .i64 0, .int .i64 0, .int .i64 0, .int .i64 0, .int .i64 0, .int .i64 0, .int .i64 0, .int .i64 0, .int .i64 0, .int .i64 0, .int .i64 0, .bool false, .int .i64 0]) (hb : Blk w g old T) (hl : old.length = 17) (h : wpList Try.prog ops Q rest (a.put none undef) (w.setCells g 0 (rec17 0 0 0 0 0 0 0 0 0 0 0 0 0 0 0 false 0))) :
    wpList Try.prog ops Q (⟨none, .store 31 (.tmp t) (.tmp t'), ty, ps, af, none⟩ :: rest) a w :=
  rc_store (x := (rec17 0 0 0 0 0 0 0 0 0 0 0 0 0 0 0 false 0)) hx hy hb hl (rec17_ok 0 0 0 0 0 0 0 0 0 0 0 0 0 0 0 false 0) h
/-- is it what it says? -/
def gotB (code : Int) (enc bs : List UInt8) : Bool := decide (code = 0 ∧ enc = bs)
def getX (b : Bool) (X : List Value) : List Value := match b with | true => X | false => (rec17 0 0 0 0 0 0 0 0 0 0 0 0 0 0 0 false 0)
def getC (b : Bool) : Int := match b with | true => 0 | false => 16
theorem own_at {w : World} {B n c : Nat} {a : Option Addr} {e : TypeId} {sz : Nat} {xs : List Value} (h : w.ownsRow B e sz (.slice a n c) n xs) : ∀ x, a = some x → x.block < w.heap.size := by
  rintro x rfl
  have := (h.lt x.block (by rcases h.2 with ⟨hv, _⟩ | ⟨g', cap', cur, hv, _⟩ <;> cases hv; rfl)).2
  exact this
set_option maxRecDepth 100000 in
set_option maxHeartbeats 8000000 in
theorem rget_of {X : List Value} {bs enc : List UInt8} {code : Int} (a : Option Addr) (n c : Nat) (w : World) (h : Sl w a n 1 (bcells bs)) (hn : n ≤ 140737488355328) (HV : Hid (X.length = 17 ∧ ∀ u ∈ X, u.oneCell' = true))
    (HRD : Hid (∀ g w, RdS w.heap.size w g (bs, true) → Calls Try.prog 16 #[.pointer (some ⟨g, 0, none⟩)] w fun e w' => e = .returned (.agg X.toArray) ∧ w.grownBy w' (some g)))
    (HPU : Hid (∀ w, Calls Try.prog 8 #[.agg X.toArray] w fun e w' => ∃ a' m' c', e = .returned (.tuple #[.slice a' m' c', .int .i64 code]) ∧ Sl w' a' m' 1 (bcells enc) ∧ Below w.heap.size w w')) :
    Calls Try.prog 6 #[.slice a n c] w fun e w' => e = .returned (.tuple #[.agg (getX (gotB code enc bs) X).toArray, .int .i64 (getC (gotB code enc bs))]) ∧ Below w.heap.size w w' := by
  have HS := Lib.hid h
  have HN0 := Lib.hid (sl_one h)
  have AZ0 : Hid (Blk (w.alloc (.cells #[.int .i64 0, .int .i64 0, .int .i64 0, .int .i64 0, .int .i64 0, .int .i64 0, .int .i64 0, .int .i64 0, .int .i64 0, .int .i64 0, .int .i64 0, .int .i64 0, .int .i64 0, .int .i64 0, .int .i64 0, .bool false, .int .i64 0] 31)) w.heap.size [.int .i64 0, .int .i64 0, .int .i64 0, .int .i64 0, .int .i64 0, .int .i64 0, .int .i64 0, .int .i64 0, .int .i64 0, .int .i64 0, .int .i64 0, .int .i64 0, .int .i64 0, .int .i64 0, .int .i64 0, .bool false, .int .i64 0] 31) := Lib.hid (Blk.new w #[.int .i64 0, .int .i64 0, .int .i64 0, .int .i64 0, .int .i64 0, .int .i64 0, .int .i64 0, .int .i64 0, .int .i64 0, .int .i64 0, .int .i64 0, .int .i64 0, .int .i64 0, .int .i64 0, .int .i64 0, .bool false, .int .i64 0] 31)
  have HB0 := Lib.hid ((Below.refl w.heap.size w).alloc (Nat.le_refl _) (.cells #[.int .i64 0, .int .i64 0, .int .i64 0, .int .i64 0, .int .i64 0, .int .i64 0, .int .i64 0, .int .i64 0, .int .i64 0, .int .i64 0, .int .i64 0, .int .i64 0, .int .i64 0, .int .i64 0, .int .i64 0, .bool false, .int .i64 0] 31))
  have hz0 : w.heap.size < (w.alloc (.cells #[.int .i64 0, .int .i64 0, .int .i64 0, .int .i64 0, .int .i64 0, .int .i64 0, .int .i64 0, .int .i64 0, .int .i64 0, .int .i64 0, .int .i64 0, .int .i64 0, .int .i64 0, .int .i64 0, .int .i64 0, .bool false, .int .i64 0] 31)).heap.size := by simp
  have HS0 := Lib.hid (h.keep HB0.out)
  clear h
  go_enter Try.func6, Try.ntmps6
  go_upto_region 1 with fail
  generalize w.alloc (.cells #[.int .i64 0, .int .i64 0, .int .i64 0, .int .i64 0, .int .i64 0, .int .i64 0, .int .i64 0, .int .i64 0, .int .i64 0, .int .i64 0, .int .i64 0, .int .i64 0, .int .i64 0, .int .i64 0, .int .i64 0, .bool false, .int .i64 0] 31) = W at *
  go_wp2_with fail
  refine (new_own a n c bs W HS0.out hn).mono ?_
  rintro e w1 ⟨g, a1, c1, rfl, hg1, hr1, hc1, hc2, ho1, hb1⟩
  have hgw : g < w1.heap.size := hr1.lt
  have hs1 : Sl w1 a1 n 1 (bcells bs) := by
    obtain ⟨a2, c2, he, _, _, hs⟩ := Sl.own ho1
    injection he with e1 e2 e3
    subst e1
    exact hs
  have HRS : Hid (RdS w1.heap.size w1 g (bs, true)) := Lib.hid (by
    have hnn := HN0.out
    subst hnn
    exact ⟨a1, c1, hr1, hs1, hc1, hc2, hgw, own_at ho1⟩)
  have HB1 := Lib.hid (HB0.out.trans (hb1.mono HB0.out.size))
  have AZ1 := Lib.hid (AZ0.out.keep hb1 AZ0.out.lt)
  have HGG := Lib.hid hg1
  clear hr1 hc1 hc2 ho1 hb1 hs1 AZ0 HB0 HS0
  go_wp2_with fail
  refine (HRD.out g w1 HRS.out).mono ?_
  rintro e w2 ⟨rfl, hg2⟩
  have hz2 := hg2.size
  have HB2 := Lib.hid (Below.grown (B := w.heap.size) HB1.out hg2 HB1.out.size fun q hq => by injection hq with hq; subst hq; exact Nat.le_trans (Nat.le_of_lt hz0) HGG.out)
  have AZ2 := Lib.hid ((AZ1.out.grown hg2 (by have := HGG.out; omega)).alloc (.cells X.toArray 31))
  have AX2 : Hid (Blk (w2.alloc (.cells X.toArray 31)) w2.heap.size X 31) := Lib.hid (Blk.new w2 X.toArray 31)
  have HB3 := Lib.hid (HB2.out.alloc HB2.out.size (.cells X.toArray 31))
  clear hg2 HB1 AZ1 HRS hz2 HB2 HRD
  go_upto_region 3 with (first
    | ((with_reducible apply rc_store_new); (· rfl); (· first | rfl | simp); (· rfl); (· rfl); (· assumption); (simp only [Act.put, List.setIfInBounds_toArray, List.set_cons_zero, List.set_cons_succ])))
  generalize hW3 : w2.alloc (.cells X.toArray 31) = W3 at *
  generalize hgx : w2.heap.size = gx at *
  clear hW3 hgx hgw hg1
  have HS3 := Lib.hid (HS.out.keep HB3.out)
  have rx : W3.rangeAt gx 0 X := AX2.out.range 0 _ (by simp)
  go_wp2_with (first
    | ((with_reducible apply rc_load); (· rfl); (· (first | assumption)); (· assumption); (simp only [Act.put, List.setIfInBounds_toArray, List.set_cons_zero, List.set_cons_succ])))
  refine (HPU.out _).mono ?_
  rintro e w4 ⟨a4, m4, c4, rfl, hs4, hb4⟩
  have HB4 := Lib.hid (HB3.out.trans (hb4.mono HB3.out.size))
  have AZ4 := Lib.hid (AZ2.out.keep hb4 AZ2.out.lt)
  have AX4 := Lib.hid (AX2.out.keep hb4 AX2.out.lt)
  have BQ := beq_any a4 a m4 n c4 c enc bs w4 hs4 (HS3.out.keep hb4)
  clear hs4 hb4 rx AZ2 AX2 HB3 HPU HS3
  by_cases hc : code = 0
  · subst hc
    by_cases he : enc = bs
    · rw [show decide (enc = bs) = true from decide_eq_true he] at BQ
      have HQ := Lib.hid BQ
      have HI : Hid (gotB 0 enc bs = true) := Lib.hid (decide_eq_true ⟨rfl, he⟩)
      clear BQ he
      go_wp2_with fail
      refine HQ.out.mono ?_
      rintro e y9 ⟨rfl, hby⟩
      have HB10 := Lib.hid (HB4.out.trans (hby.mono HB4.out.size))
      have AZ10 := AZ4.out.keep hby AZ4.out.lt
      have AX10 := Lib.hid (AX4.out.keep hby AX4.out.lt)
      have rx : y9.rangeAt gx 0 X := AX10.out.range 0 _ (by simp)
      clear HQ hby HB4 AZ4 AX4
      have AZ11 := Lib.hid AZ10
      have C5 := Lib.hid (AZ11.out.setAll X (by rw [HV.out.1]; rfl))
      have HBZ := Lib.hid (below_sets (Nat.le_refl _) X 0 _ HB10.out)
      go_wp2_with (first
        | ((with_reducible apply rc_load); (· rfl); (· (first | assumption)); (· assumption); (simp only [Act.put, List.setIfInBounds_toArray, List.set_cons_zero, List.set_cons_succ]))
        | ((with_reducible apply rc_store); (· rfl); (· rfl); (· exact AZ11.out); (· rfl); (· exact HV); (simp only [Act.put, List.setIfInBounds_toArray, List.set_cons_zero, List.set_cons_succ]); (generalize y9.setCells w.heap.size 0 X = WW at *)))
      refine ret_cell_tmp (p := 2) (q := 3) rfl rfl rfl C5.out Try.underlying31 rfl (by rw [rc_size, HV.out.1]) rfl ⟨by rw [HI.out]; rfl, HBZ.out⟩
    · rw [show decide (enc = bs) = false from decide_eq_false he] at BQ
      have HQ := Lib.hid BQ
      have HI : Hid (gotB 0 enc bs = false) := Lib.hid (decide_eq_false (fun h => he h.2))
      clear BQ he
      go_wp2_with fail
      refine HQ.out.mono ?_
      rintro e y9 ⟨rfl, hby⟩
      have HB10 := Lib.hid (HB4.out.trans (hby.mono HB4.out.size))
      have AZ10 := Lib.hid (AZ4.out.keep hby AZ4.out.lt)
      clear HQ hby HB4 AZ4 AX4
      have C5 := Lib.hid (AZ10.out.setAll (rec17 0 0 0 0 0 0 0 0 0 0 0 0 0 0 0 false 0) rfl)
      have HBZ := Lib.hid (below_sets (Nat.le_refl _) (rec17 0 0 0 0 0 0 0 0 0 0 0 0 0 0 0 false 0) 0 _ HB10.out)
      go_upto_region 5 with fail
      go_wp2_with (first
        | ((with_reducible apply rc_storeZ); (· rfl); (· rfl); (· exact AZ10.out); (· rfl); (simp only [Act.put, List.setIfInBounds_toArray, List.set_cons_zero, List.set_cons_succ]); (generalize y9.setCells w.heap.size 0 (rec17 0 0 0 0 0 0 0 0 0 0 0 0 0 0 0 false 0) = WW at *)))
      refine ret_cell_tmp (p := 2) (q := 3) rfl rfl rfl C5.out Try.underlying31 rfl (by rw [rc_size]; rfl) rfl ⟨by rw [HI.out]; rfl, HBZ.out⟩
  · have HI : Hid (gotB code enc bs = false) := Lib.hid (decide_eq_false (fun h => hc h.1))
    clear BQ
    have C5 := Lib.hid (AZ4.out.setAll (rec17 0 0 0 0 0 0 0 0 0 0 0 0 0 0 0 false 0) rfl)
    have HBZ := Lib.hid (below_sets (Nat.le_refl _) (rec17 0 0 0 0 0 0 0 0 0 0 0 0 0 0 0 false 0) 0 _ HB4.out)
    go_upto_region 5 with fail
    go_wp2_with (first
      | ((with_reducible apply rc_storeZ); (· rfl); (· rfl); (· exact AZ4.out); (· rfl); (simp only [Act.put, List.setIfInBounds_toArray, List.set_cons_zero, List.set_cons_succ]); (generalize w4.setCells w.heap.size 0 (rec17 0 0 0 0 0 0 0 0 0 0 0 0 0 0 0 false 0) = WW at *)))
    refine ret_cell_tmp (p := 2) (q := 3) rfl rfl rfl C5.out Try.underlying31 rfl (by rw [rc_size]; rfl) rfl ⟨by rw [HI.out]; rfl, HBZ.out⟩
end Go.Proofs.Ytfffbhkenggdcaa
