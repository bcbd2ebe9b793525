/- Orders: counted, held; in one of any states. -/
import Derived.Test.YtlhebimfkdcidaaDeal4
import Derived.Test.YtlhebimfkdcidaaLd
import Derived.Test.YtlhebimfkdcidaaBookRd
namespace Go.Proofs.Ytlhebimfkdcidaa
set_option linter.unusedVariables false
set_option linter.unusedSimpArgs false
open Go.ChangeShapes Go.WideShapes Go.ChangeAt Go.RowKit
/-- is a number among the first k? -/
def inTo (Z : List Int) (x : Int) : Nat → Bool
  | 0 => false
  | k + 1 => inTo Z x k || decide (Z.getD k 0 = x)
theorem in_step {Z : List Int} {x : Int} {i : Nat} (h : inTo Z x i = false) (hb : ¬ Z.getD i 0 = x) : inTo Z x (i + 1) = false := by
  unfold inTo; rw [h, decide_eq_false hb]; rfl
theorem in_hit {Z : List Int} {x : Int} {i : Nat} (hb : Z.getD i 0 = x) : ∀ n, i < n → inTo Z x n = true := by
  intro n hn
  induction n with
  | zero => omega
  | succ n ih =>
    unfold inTo
    by_cases hi : i = n
    · subst hi; rw [decide_eq_true hb, Bool.or_true]
    · rw [ih (by omega), Bool.true_or]
def IdxIs (b : Bool) (e : Ending) : Prop := ∃ k : Int, e = .returned (.int .i64 k) ∧ decide (0 ≤ k) = b
/-- element i of a slice of ints. -/
theorem Sl.int1 {w : World} {b off n : Nat} {Z : List Int} {i : Nat} (h : Sl w (some ⟨b, off, none⟩) n 1 (ints Z)) (hi : i < n) : w.cell? ⟨b, off + i, none⟩ = some (.int .i64 (Z.getD i 0)) := by
  have hl := h.1
  rw [ints_len] at hl
  rcases h.2 with h0 | ⟨b', off', hh, _, hc⟩
  · omega
  · injection hh with hh
    injection hh with e1 e2
    subst e1; subst e2
    rw [hc i (by omega), List.getD_eq_getElem?_getD, ints_get Z i (by omega)]
    rfl
theorem Sl.some_of {w : World} {a : Option Addr} {n sz : Nat} {xs : List Value} (h : Sl w a n sz xs) (hn : 0 < n) : ∃ b off, a = some ⟨b, off, none⟩ := by
  rcases h.2 with h0 | ⟨b, off, hh, _⟩
  · omega
  · exact ⟨b, off, hh⟩
set_option maxHeartbeats 2000000 in
theorem ii_any (a : Option Addr) (n c : Nat) (Z : List Int) (x : Int) (w : World) (HS : Hid (Sl w a n 1 (ints Z))) (hn : n ≤ 9223372036854775807) :
    Calls Try.prog 30 #[.slice a n c, .int .i64 x] w fun e w' => IdxIs (inTo Z x n) e ∧ w = w' := by
  have ST := Lib.hid (fun i => @in_step Z x i)
  have HT := Lib.hid (fun i (hb : Z.getD i 0 = x) => in_hit hb n)
  have Z0 : Hid (inTo Z x 0 = false) := Lib.hid rfl
  go_enter Try.func30, Try.ntmps30
  go_upto_region 2 with fail
  go_loopg [8] n (fun g s5 wr => ∃ i : Nat, g + i = n ∧ s5 = .int .i64 i ∧ wr = w ∧ Hid (inTo Z x i = false))
  case atStart => exact ⟨0, rfl, rfl, rfl, Z0⟩
  case round =>
    obtain ⟨i, hqi, rfl, rfl, hpre⟩ := hrel
    by_cases hi : i < n
    · obtain ⟨b, off, rfl⟩ := HS.out.some_of (by omega)
      have cz := HS.out.int1 hi
      have hi0 : (0 : Int) ≤ i := by omega
      have hin : (i : Int) < n := by omega
      have hs := Lib.hid (ST.out i hpre.out)
      have ht := Lib.hid (HT.out i)
      generalize Z.getD i 0 = z at *
      by_cases hz : z = x
      · have HR := Lib.hid (ht.out hz hi)
        have hzb : (x == z) = true := by rw [hz]; simp
        clear hs ht hz
        go_wp2_with fail
        go_ret
        exact ⟨⟨i, rfl, by rw [HR.out]; exact decide_eq_true hi0⟩, rfl⟩
      · have HP := Lib.hid (hs.out hz)
        have hzb : (x == z) = false := beq_eq_false_iff_ne.2 (fun h => hz h.symm)
        clear hs ht hz
        go_wp2_with fail
        go_roundg (gk - 1)
        case measure => omega
        case rel => exact ⟨i + 1, by omega, by go_num, rfl, HP⟩
    · have hin : ¬ (i : Int) < n := by omega
      have HR : Hid (inTo Z x n = false) := Lib.hid (by
        obtain rfl : i = n := by omega
        exact hpre.out)
      go_wp2_with fail
      go_ret
      exact ⟨⟨-1, rfl, by rw [HR.out]; rfl⟩, rfl⟩
theorem contains_any (a : Option Addr) (n c : Nat) (Z : List Int) (x : Int) (w : World) (HS : Hid (Sl w a n 1 (ints Z))) (hn : n ≤ 9223372036854775807) :
    Calls Try.prog 23 #[.slice a n c, .int .i64 x] w fun e w' => e = .returned (.bool (inTo Z x n)) ∧ w = w' := by
  have C := Lib.hid (ii_any a n c Z x w HS hn)
  generalize inTo Z x n = v at *
  go_enter Try.func23, Try.ntmps23
  go_wp2_with fail
  refine C.out.mono ?_
  rintro e w' ⟨⟨k, rfl, hk⟩, rfl⟩
  have HK := Lib.hid hk
  clear hk
  go_wp2_with fail
  go_ret
  exact ⟨by rw [← HK.out]; rfl, rfl⟩
/-- how many orders are in a state, of the first k. -/
def cntTo (L : List Int) (st : Int) : Nat → Int
  | 0 => 0
  | k + 1 => if L.getD (k * 7 + 6) 0 = st then wrap64 (cntTo L st k + 1) else cntTo L st k
def heldB (L : List Int) (it : Int) (k : Nat) : Bool := (L.getD (k * 7 + 3) 0 == it) && ((L.getD (k * 7 + 6) 0 == 1) || (L.getD (k * 7 + 6) 0 == 2))
def heldTo (L : List Int) (it : Int) : Nat → Int
  | 0 => 0
  | k + 1 => if heldB L it k = true then wrap64 (heldTo L it k + L.getD (k * 7 + 4) 0) else heldTo L it k
set_option maxHeartbeats 4000000 in
theorem count_any (s p u : List Int) (a : Option Addr) (n c : Nat) (L : List Int) (st : Int) (w : World) (h8 : Hid (L8 s p u)) (HS : Hid (Sl w a n 7 (ints L))) (hf : Hid (∀ k, fits (L.getD k 0) = true)) (hn : n * 56 ≤ 140737488355328) :
    Calls Try.prog 16 #[.agg (bkc s p u (.slice a n c)).toArray, .int .i64 st] w fun e w' => e = .returned (.int .i64 (cntTo L st n)) ∧ Below w.heap.size w w' := by
  have A1 := Blk.new w (bkc s p u (.slice a n c)).toArray 25
  rw [List.toList_toArray] at A1
  have hb1 := (Below.refl w.heap.size w).alloc (Nat.le_refl _) (.cells (bkc s p u (.slice a n c)).toArray 25)
  have CA := Lib.hid (bkc_o h8.out (.slice a n c))
  have HS1 := Lib.hid (HS.out.keep hb1)
  have HL := Lib.hid HS.out.1
  have Z0 : Hid (cntTo L st 0 = 0) := Lib.hid rfl
  clear HS
  generalize (bkc s p u (.slice a n c)) = X at *
  go_enter Try.func16, Try.ntmps16
  go_upto_region 1 with fail
  generalize w.alloc (.cells X.toArray 25) = W at *
  have ca := (A1.cell 24).trans CA.out
  have HB := Lib.hid hb1
  clear A1 hb1
  go_upto_region 3 with fail
  clear ca
  go_loopg [5, 11] n (fun g s5 s11 wr => ∃ i : Nat, g + i = n ∧ s11 = .int .i64 i ∧ s5 = .int .i64 (cntTo L st i) ∧ Hid (Below W.heap.size W wr))
  case atStart => exact ⟨0, rfl, rfl, by rw [Z0.out], Lib.hid (Below.refl W.heap.size W)⟩
  case round =>
    obtain ⟨i, hqi, rfl, rfl, hbr⟩ := hrel
    by_cases hi : i < n
    · obtain ⟨b, off, rfl, hra, hlc⟩ := (HS1.out.keep hbr.out).chunk hi (by decide)
      rw [chunk7 HL.out hi] at hra
      have TO : RowT 29 (ints (ord7 L i)).length := rowO
      have OO : Hid (∀ x ∈ ints (ord7 L i), x.oneCell' = true) := Lib.hid fun x hx => ints_one hx
      have DO : Hid (Blk (wr.alloc (.cells (ints (ord7 L i)).toArray 29)) wr.heap.size (ints (ord7 L i)) 29) := Lib.hid (Blk.new wr (ints (ord7 L i)).toArray 29)
      have hbn := Lib.hid (hbr.out.alloc hbr.out.size (.cells (ints (ord7 L i)).toArray 29))
      have d3 : (wr.alloc (.cells (ints (ord7 L i)).toArray 29)).cell? ⟨wr.heap.size, 3, none⟩ = some (.int .i64 (L.getD (i * 7 + 3) 0)) := DO.out.cell 3
      have d4 : (wr.alloc (.cells (ints (ord7 L i)).toArray 29)).cell? ⟨wr.heap.size, 4, none⟩ = some (.int .i64 (L.getD (i * 7 + 4) 0)) := DO.out.cell 4
      have d6 : (wr.alloc (.cells (ints (ord7 L i)).toArray 29)).cell? ⟨wr.heap.size, 6, none⟩ = some (.int .i64 (L.getD (i * 7 + 6) 0)) := DO.out.cell 6
      have LO : Hid ((ints (ord7 L i)).length = 7) := Lib.hid rfl
      have EN : Hid (cntTo L st (i + 1) = if L.getD (i * 7 + 6) 0 = st then wrap64 (cntTo L st i + 1) else cntTo L st i) := Lib.hid rfl
      
      generalize ints (ord7 L i) = Y at *
      generalize L.getD (i * 7 + 3) 0 = z3 at *
      generalize L.getD (i * 7 + 4) 0 = z4 at *
      generalize L.getD (i * 7 + 6) 0 = z6 at *
      generalize hzz : cntTo L st i = zz at *
      clear hzz
      generalize hzn : cntTo L st (i + 1) = zn at *
      have HZN := Lib.hid hzn
      clear hzn
      have hi0 : (0 : Int) ≤ i := by omega
      have hin : (i : Int) < n := by omega
      clear hlc
      go_upto_region 5 with (first
        | ((with_reducible refine ld_row hra TO ?_ ?_ ?_); (· rfl); (· rfl); (simp only [Act.put, List.setIfInBounds_toArray, List.set_cons_zero, List.set_cons_succ]))
        | ((with_reducible refine st_row_new (cs := Y) TO OO.out ?_ ?_ ?_ ?_); (· first | rfl | simp); (· rfl); (· exact LO.out.symm); (simp only [Act.put, List.setIfInBounds_toArray, List.set_cons_zero, List.set_cons_succ])))
      generalize hW : wr.alloc (.cells Y.toArray 29) = wn at *
      generalize hG : wr.heap.size = gn at *
      clear hW hG hra
      by_cases hz : z6 = st
      · have hzb : (z6 == st) = true := by rw [hz]; simp
        have HZ := Lib.hid hz
        clear hz
        go_wp2_with fail
        go_roundg (gk - 1)
        case measure => omega
        case rel => exact ⟨i + 1, by omega, by go_num, by rw [HZN.out, EN.out, if_pos HZ.out], hbn⟩
      · have hzb : (z6 == st) = false := beq_eq_false_iff_ne.2 hz
        have HZ := Lib.hid hz
        clear hz
        go_wp2_with fail
        go_roundg (gk - 1)
        case measure => omega
        case rel => exact ⟨i + 1, by omega, by go_num, by rw [HZN.out, EN.out, if_neg HZ.out], hbn⟩
    · have hin : ¬ (i : Int) < n := by omega
      have HR2 : Hid (cntTo L st n = cntTo L st i) := Lib.hid (by
        obtain rfl : i = n := by omega
        rfl)
      generalize cntTo L st i = zz at *
      go_wp2_with fail
      go_ret
      exact ⟨by rw [HR2.out]; rfl, HB.out.trans (hbr.out.mono HB.out.size)⟩
set_option maxHeartbeats 4000000 in
theorem held_any (s p u : List Int) (a : Option Addr) (n c : Nat) (L : List Int) (st : Int) (w : World) (h8 : Hid (L8 s p u)) (HS : Hid (Sl w a n 7 (ints L))) (hf : Hid (∀ k, fits (L.getD k 0) = true)) (hn : n * 56 ≤ 140737488355328) :
    Calls Try.prog 15 #[.agg (bkc s p u (.slice a n c)).toArray, .int .i64 st] w fun e w' => e = .returned (.int .i64 (heldTo L st n)) ∧ Below w.heap.size w w' := by
  have A1 := Blk.new w (bkc s p u (.slice a n c)).toArray 25
  rw [List.toList_toArray] at A1
  have hb1 := (Below.refl w.heap.size w).alloc (Nat.le_refl _) (.cells (bkc s p u (.slice a n c)).toArray 25)
  have CA := Lib.hid (bkc_o h8.out (.slice a n c))
  have HS1 := Lib.hid (HS.out.keep hb1)
  have HL := Lib.hid HS.out.1
  have Z0 : Hid (heldTo L st 0 = 0) := Lib.hid rfl
  clear HS
  generalize (bkc s p u (.slice a n c)) = X at *
  go_enter Try.func15, Try.ntmps15
  go_upto_region 1 with fail
  generalize w.alloc (.cells X.toArray 25) = W at *
  have ca := (A1.cell 24).trans CA.out
  have HB := Lib.hid hb1
  clear A1 hb1
  go_upto_region 3 with fail
  clear ca
  go_loopg [5, 11] n (fun g s5 s11 wr => ∃ i : Nat, g + i = n ∧ s11 = .int .i64 i ∧ s5 = .int .i64 (heldTo L st i) ∧ Hid (Below W.heap.size W wr))
  case atStart => exact ⟨0, rfl, rfl, by rw [Z0.out], Lib.hid (Below.refl W.heap.size W)⟩
  case round =>
    obtain ⟨i, hqi, rfl, rfl, hbr⟩ := hrel
    by_cases hi : i < n
    · obtain ⟨b, off, rfl, hra, hlc⟩ := (HS1.out.keep hbr.out).chunk hi (by decide)
      rw [chunk7 HL.out hi] at hra
      have TO : RowT 29 (ints (ord7 L i)).length := rowO
      have OO : Hid (∀ x ∈ ints (ord7 L i), x.oneCell' = true) := Lib.hid fun x hx => ints_one hx
      have DO : Hid (Blk (wr.alloc (.cells (ints (ord7 L i)).toArray 29)) wr.heap.size (ints (ord7 L i)) 29) := Lib.hid (Blk.new wr (ints (ord7 L i)).toArray 29)
      have hbn := Lib.hid (hbr.out.alloc hbr.out.size (.cells (ints (ord7 L i)).toArray 29))
      have d3 : (wr.alloc (.cells (ints (ord7 L i)).toArray 29)).cell? ⟨wr.heap.size, 3, none⟩ = some (.int .i64 (L.getD (i * 7 + 3) 0)) := DO.out.cell 3
      have d4 : (wr.alloc (.cells (ints (ord7 L i)).toArray 29)).cell? ⟨wr.heap.size, 4, none⟩ = some (.int .i64 (L.getD (i * 7 + 4) 0)) := DO.out.cell 4
      have d6 : (wr.alloc (.cells (ints (ord7 L i)).toArray 29)).cell? ⟨wr.heap.size, 6, none⟩ = some (.int .i64 (L.getD (i * 7 + 6) 0)) := DO.out.cell 6
      have LO : Hid ((ints (ord7 L i)).length = 7) := Lib.hid rfl
      have EN : Hid (heldTo L st (i + 1) = if heldB L st i = true then wrap64 (heldTo L st i + L.getD (i * 7 + 4) 0) else heldTo L st i) := Lib.hid rfl
      have EH : Hid (heldB L st i = ((L.getD (i * 7 + 3) 0 == st) && ((L.getD (i * 7 + 6) 0 == 1) || (L.getD (i * 7 + 6) 0 == 2)))) := Lib.hid rfl
      generalize ints (ord7 L i) = Y at *
      generalize L.getD (i * 7 + 3) 0 = z3 at *
      generalize L.getD (i * 7 + 4) 0 = z4 at *
      generalize L.getD (i * 7 + 6) 0 = z6 at *
      generalize hzz : heldTo L st i = zz at *
      clear hzz
      generalize hzn : heldTo L st (i + 1) = zn at *
      have HZN := Lib.hid hzn
      clear hzn
      have hi0 : (0 : Int) ≤ i := by omega
      have hin : (i : Int) < n := by omega
      clear hlc
      go_upto_region 5 with (first
        | ((with_reducible refine ld_row hra TO ?_ ?_ ?_); (· rfl); (· rfl); (simp only [Act.put, List.setIfInBounds_toArray, List.set_cons_zero, List.set_cons_succ]))
        | ((with_reducible refine st_row_new (cs := Y) TO OO.out ?_ ?_ ?_ ?_); (· first | rfl | simp); (· rfl); (· exact LO.out.symm); (simp only [Act.put, List.setIfInBounds_toArray, List.set_cons_zero, List.set_cons_succ])))
      generalize hW : wr.alloc (.cells Y.toArray 29) = wn at *
      generalize hG : wr.heap.size = gn at *
      clear hW hG hra
      rcases h3 : (z3 == st) with _ | _
      · have HH : Hid (heldB L st i = false) := Lib.hid (by rw [EH.out, h3]; rfl)
        clear EH
        go_wp2_with fail
        go_roundg (gk - 1)
        case measure => omega
        case rel => exact ⟨i + 1, by omega, by go_num, by rw [HZN.out, EN.out, HH.out, if_neg (by decide)], hbn⟩
      · rcases h1 : (z6 == 1) with _ | _
        · rcases h2 : (z6 == 2) with _ | _
          · have HH : Hid (heldB L st i = false) := Lib.hid (by rw [EH.out, h3, h1, h2]; rfl)
            clear EH
            go_wp2_with fail
            go_roundg (gk - 1)
            case measure => omega
            case rel => exact ⟨i + 1, by omega, by go_num, by rw [HZN.out, EN.out, HH.out, if_neg (by decide)], hbn⟩
          · have HH : Hid (heldB L st i = true) := Lib.hid (by rw [EH.out, h3, h1, h2]; rfl)
            clear EH
            go_wp2_with fail
            go_roundg (gk - 1)
            case measure => omega
            case rel => exact ⟨i + 1, by omega, by go_num, by rw [HZN.out, EN.out, if_pos HH.out], hbn⟩
        · have HH : Hid (heldB L st i = true) := Lib.hid (by rw [EH.out, h3, h1]; rfl)
          clear EH
          go_wp2_with fail
          go_roundg (gk - 1)
          case measure => omega
          case rel => exact ⟨i + 1, by omega, by go_num, by rw [HZN.out, EN.out, if_pos HH.out], hbn⟩
    · have hin : ¬ (i : Int) < n := by omega
      have HR2 : Hid (heldTo L st n = heldTo L st i) := Lib.hid (by
        obtain rfl : i = n := by omega
        rfl)
      generalize heldTo L st i = zz at *
      go_wp2_with fail
      go_ret
      exact ⟨by rw [HR2.out]; rfl, HB.out.trans (hbr.out.mono HB.out.size)⟩
end Go.Proofs.Ytlhebimfkdcidaa
