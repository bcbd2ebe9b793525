/- Orders: found by Id, counted, held. -/
import Derived.Test.YtlhebimfkdcidaaDeal2
import Derived.Test.YtlhebimfkdcidaaLd
import Derived.Test.YtlhebimfkdcidaaBookRd
namespace Go.Proofs.Ytlhebimfkdcidaa
set_option linter.unusedVariables false
set_option linter.unusedSimpArgs false
open Go.ChangeShapes Go.WideShapes Go.ChangeAt Go.RowKit
/-- order j: its numbers. -/
def ord7 (L : List Int) (j : Nat) : List Int := [L.getD (j * 7) 0, L.getD (j * 7 + 1) 0, L.getD (j * 7 + 2) 0, L.getD (j * 7 + 3) 0, L.getD (j * 7 + 4) 0, L.getD (j * 7 + 5) 0, L.getD (j * 7 + 6) 0]
theorem ord7_len (L : List Int) (j : Nat) : (ord7 L j).length = 7 := rfl
theorem seven : ∀ (M : List Int), 7 ≤ M.length → M.take 7 = [M.getD 0 0, M.getD 1 0, M.getD 2 0, M.getD 3 0, M.getD 4 0, M.getD 5 0, M.getD 6 0]
  | a :: b :: c :: d :: e :: f :: g :: r, _ => rfl
theorem chunk7 {L : List Int} {n j : Nat} (hl : (ints L).length = n * 7) (hj : j < n) : (((ints L).drop (j * 7)).take 7) = ints (ord7 L j) := by
  have h7 : 7 ≤ (L.drop (j * 7)).length := by rw [List.length_drop]; rw [ints_len] at hl; omega
  have e : (((ints L).drop (j * 7)).take 7) = ints ((L.drop (j * 7)).take 7) := by unfold ints; rw [List.map_take, List.map_drop]
  rw [e, seven _ h7]
  unfold ord7
  simp only [List.getD_eq_getElem?_getD, List.getElem?_drop, Nat.add_zero]
theorem rowO : RowT 29 7 := ⟨⟨_, Try.underlying29, rfl⟩, by kernel_rfl⟩
theorem rowI : RowT 27 2 := ⟨⟨_, Try.underlying27, rfl⟩, by kernel_rfl⟩
theorem egI : Try.prog.eqGuardType Try.prog.depth 27 = false := by kernel_rfl
def hitB (L : List Int) (r q : Int) (j : Nat) : Bool := sameB (ints [L.getD (j * 7) 0, L.getD (j * 7 + 1) 0]) (ints [r, q])
def idxTo (L : List Int) (r q : Int) : Nat → Int
  | 0 => -1
  | k + 1 => if idxTo L r q k = -1 then (if hitB L r q k = true then (k : Int) else -1) else idxTo L r q k
theorem idx_step {L : List Int} {r q : Int} {i : Nat} (h : idxTo L r q i = -1) (hb : hitB L r q i = false) : idxTo L r q (i + 1) = -1 := by
  unfold idxTo; rw [if_pos h, hb]; rfl
theorem idx_hit {L : List Int} {r q : Int} {i : Nat} (h : idxTo L r q i = -1) (hb : hitB L r q i = true) : ∀ n, i < n → idxTo L r q n = i := by
  intro n hn
  induction n with
  | zero => omega
  | succ n ih =>
    by_cases hi : i = n
    · subst hi; unfold idxTo; rw [if_pos h, if_pos hb]
    · have := ih (by omega)
      unfold idxTo; rw [if_neg (by omega)]; exact this
theorem idx_bd (L : List Int) (r q : Int) : ∀ n, idxTo L r q n = -1 ∨ (0 ≤ idxTo L r q n ∧ idxTo L r q n < n)
  | 0 => Or.inl rfl
  | n + 1 => by
    rcases idx_bd L r q n with h | h
    · unfold idxTo; rw [if_pos h]; split
      · right; constructor <;> omega
      · left; rfl
    · unfold idxTo; rw [if_neg (by omega)]; right; constructor <;> omega
theorem wf_fitsO {n : Int} (h : fits n = true) : (Lit.int .i64 n).wf = true := by
  obtain ⟨h1, h2⟩ := (fits_iff n).1 h
  simp only [Lit.wf, IntKind.min, IntKind.max, IntKind.signed, IntKind.bits, Bool.and_eq_true, decide_eq_true_eq, if_true]
  omega
theorem okId {x y : Int} (hx : fits x = true) (hy : fits y = true) : OkAll (List.replicate 2 (some .i64)) (ints [x, y]) := ⟨⟨x, rfl, wf_fitsO hx⟩, ⟨y, rfl, wf_fitsO hy⟩, trivial⟩
theorem id_eql {x y r q : Int} (hx : fits x = true) (hy : fits y = true) (hr : fits r = true) (hq : fits q = true) (w : World) : (binOp .eql 27 (.agg (ints [x, y]).toArray) (.agg (ints [r, q]).toArray)).run Try.prog w = .ok (.bool (sameB (ints [x, y]) (ints [r, q]))) w :=
  eql_flat 2 3 27 _ _ _ w (show flat Try.prog 2 27 = some (List.replicate 2 (some .i64)) by kernel_rfl) (by kernel_rfl) (by kernel_rfl) (by kernel_rfl) (by decide) (okId hx hy) (okId hr hq)
set_option maxHeartbeats 2000000 in
theorem clo_any (L : List Int) (j : Nat) (r q : Int) (gc : Nat) (w : World) (hf : Hid (∀ k, fits (L.getD k 0) = true)) (hr : fits r = true) (hq : fits q = true) (hc : Hid (Blk w gc (ints [r, q]) 27)) :
    Calls Try.prog 26 #[.agg (ints (ord7 L j)).toArray, .pointer (some ⟨gc, 0, none⟩)] w fun e w' => e = .returned (.bool (hitB L r q j)) ∧ Below w.heap.size w w' := by
  have NE := Lib.hid (fun w => id_eql (hf.out (j * 7)) (hf.out (j * 7 + 1)) hr hq w)
  have A1 := Blk.new w (ints (ord7 L j)).toArray 29
  rw [List.toList_toArray] at A1
  have HB := Lib.hid ((Below.refl w.heap.size w).alloc (Nat.le_refl _) (.cells (ints (ord7 L j)).toArray 29))
  have HC1 := Lib.hid (hc.out.keep HB.out hc.out.lt)
  have XI : Hid (((ints (ord7 L j)).drop 0).take (ints [L.getD (j * 7) 0, L.getD (j * 7 + 1) 0]).length = ints [L.getD (j * 7) 0, L.getD (j * 7 + 1) 0]) := Lib.hid rfl
  have HH : Hid (hitB L r q j = sameB (ints [L.getD (j * 7) 0, L.getD (j * 7 + 1) 0]) (ints [r, q])) := Lib.hid rfl
  have TI : RowT 27 (ints [L.getD (j * 7) 0, L.getD (j * 7 + 1) 0]).length := rowI
  have TC : RowT 27 (ints [r, q]).length := rowI
  generalize ints (ord7 L j) = X at *
  generalize hitB L r q j = v at *
  generalize ints [L.getD (j * 7) 0, L.getD (j * 7 + 1) 0] = Y at *
  generalize ints [r, q] = Z at *
  go_enter Try.func26, Try.ntmps26
  go_upto_region 1 with fail
  generalize w.alloc (.cells X.toArray 29) = W at *
  have ri : W.rangeAt w.heap.size 0 Y := A1.range 0 _ XI.out
  have rc : W.rangeAt gc 0 Z := HC1.out.range 0 _ (by simp)
  clear A1
  go_wp2_with (first
    | ((with_reducible refine ld_row ri TI ?_ ?_ ?_); (· rfl); (· rfl); (simp only [Act.put, List.setIfInBounds_toArray, List.set_cons_zero, List.set_cons_succ]))
    | ((with_reducible refine ld_row rc TC ?_ ?_ ?_); (· rfl); (· rfl); (simp only [Act.put, List.setIfInBounds_toArray, List.set_cons_zero, List.set_cons_succ]))
    | ((with_reducible refine cmp_row egI NE.out ?_ ?_ ?_ ?_); (· rfl); (· rfl); (· rfl); (simp only [Act.put, List.setIfInBounds_toArray, List.set_cons_zero, List.set_cons_succ])))
  go_ret
  exact ⟨by rw [HH.out]; rfl, HB.out⟩
set_option maxHeartbeats 2000000 in
theorem idxf_any (a : Option Addr) (n c : Nat) (L : List Int) (r q : Int) (gc : Nat) (w : World) (HS : Hid (Sl w a n 7 (ints L))) (hf : Hid (∀ k, fits (L.getD k 0) = true)) (hr : fits r = true) (hq : fits q = true) (hc : Hid (Blk w gc (ints [r, q]) 27)) (hn : n * 56 ≤ 140737488355328) :
    Calls Try.prog 25 #[.slice a n c, .func (.func 26) #[] #[.pointer (some ⟨gc, 0, none⟩)]] w fun e w' => e = .returned (.int .i64 (idxTo L r q n)) ∧ Below w.heap.size w w' := by
  have ST := Lib.hid (fun i => @idx_step L r q i)
  have HT := Lib.hid (fun i (h : idxTo L r q i = -1) (hb : hitB L r q i = true) => idx_hit h hb n)
  have Z0 : Hid (idxTo L r q 0 = -1) := Lib.hid rfl
  have HR := Lib.hid hr
  have HQ := Lib.hid hq
  have HL := Lib.hid HS.out.1
  clear hr hq
  go_enter Try.func25, Try.ntmps25
  go_upto_region 2 with fail
  go_loopg [8] n (fun g s5 wr => ∃ i : Nat, g + i = n ∧ s5 = .int .i64 i ∧ Hid (Below w.heap.size w wr) ∧ Hid (idxTo L r q i = -1))
  case atStart => exact ⟨0, rfl, rfl, Lib.hid (Below.refl w.heap.size w), Z0⟩
  case round =>
    obtain ⟨i, hqi, rfl, hbr, hpre⟩ := hrel
    by_cases hi : i < n
    · obtain ⟨b, off, rfl, hra, hlc⟩ := (HS.out.keep hbr.out).chunk hi (by decide)
      rw [chunk7 HL.out hi] at hra
      have TO : RowT 29 (ints (ord7 L i)).length := rowO
      have CL := Lib.hid (clo_any L i r q gc wr hf HR.out HQ.out (Lib.hid (hc.out.keep hbr.out hc.out.lt)))
      have hs := Lib.hid (ST.out i hpre.out)
      have ht := Lib.hid (HT.out i hpre.out)
      generalize ints (ord7 L i) = X at *
      have hi0 : (0 : Int) ≤ i := by omega
      have hin : (i : Int) < n := by omega
      clear hlc
      go_wp2_with (first
        | ((with_reducible refine ld_row hra TO ?_ ?_ ?_); (· rfl); (· rfl); (simp only [Act.put, List.setIfInBounds_toArray, List.set_cons_zero, List.set_cons_succ])))
      refine CL.out.mono ?_
      rintro e w2 ⟨rfl, hb2⟩
      have hbr2 := Lib.hid (hbr.out.trans (hb2.mono hbr.out.size))
      clear hb2 hra hbr CL
      rcases hv : hitB L r q i with _ | _
      · have hp2 := Lib.hid (hs.out hv)
        clear hv hs ht
        go_wp2_with fail
        go_roundg (gk - 1)
        case measure => omega
        case rel => exact ⟨i + 1, by omega, by go_num, hbr2, hp2⟩
      · have HR2 := Lib.hid (ht.out hv hi)
        clear hv hs ht
        go_wp2_with fail
        go_ret
        exact ⟨by rw [HR2.out]; rfl, hbr2.out⟩
    · have hin : ¬ (i : Int) < n := by omega
      have HR2 : Hid (idxTo L r q n = -1) := Lib.hid (by obtain rfl : i = n := by omega
                                                         exact hpre.out)
      go_wp2_with fail
      go_ret
      exact ⟨by rw [HR2.out]; rfl, hbr.out⟩
end Go.Proofs.Ytlhebimfkdcidaa
