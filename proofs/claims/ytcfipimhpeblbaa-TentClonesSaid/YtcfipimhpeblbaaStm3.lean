/- Lists of changes: where an Id stands. -/
import Derived.Test.YtcfipimhpeblbaaStm2
import Derived.Test.YtcfipimhpeblbaaEq
import Derived.Deep.DeepCutAuto
import Derived.Maps.AppendAt
import Derived.Test.YtcfipimhpeblbaaRow
import Derived.Test.YtcfipimhpeblbaaOps
import Derived.RegionTactic
import Derived.BigRegion
import Derived.ChangeAlike
namespace Go.Proofs.Ytcfipimhpeblbaa
set_option linter.unusedVariables false
set_option linter.unusedSimpArgs false
open Go.ChangeShapes Go.WideShapes Go.ChangeAt Go.RowKit
theorem wf_fitsS {n : Int} (h : fits n = true) : (Lit.int .i64 n).wf = true := by
  obtain ⟨h1, h2⟩ := (fits_iff n).1 h
  simp only [Lit.wf, IntKind.min, IntKind.max, IntKind.signed, IntKind.bits, Bool.and_eq_true, decide_eq_true_eq, if_true]
  omega
theorem flatIdS : flat Try.prog 4 34 = some (List.replicate 2 (some .i64)) := by kernel_rfl
theorem okIdS {p q : Int} (hp : fits p = true) (hq : fits q = true) : OkAll (List.replicate 2 (some .i64)) (ints [p, q]) := ⟨⟨p, rfl, wf_fitsS hp⟩, ⟨q, rfl, wf_fitsS hq⟩, trivial⟩
theorem same_idS {p q p2 q2 : Int} (hp : fits p = true) (hq : fits q = true) (hp2 : fits p2 = true) (hq2 : fits q2 = true) : sameB (ints [p, q]) (ints [p2, q2]) = decide (p = p2 ∧ q = q2) := by
  have := sameB_iff (okIdS hp hq) (okIdS hp2 hq2)
  by_cases h : p = p2 ∧ q = q2
  · obtain ⟨rfl, rfl⟩ := h
    rw [sameB_refl]; simp
  · rw [decide_eq_false h]
    exact Bool.eq_false_iff.2 (fun e => h (by have h2 := this.1 e; simp [ints] at h2; exact h2))
theorem id_eqlS {p q p2 q2 : Int} (hp : fits p = true) (hq : fits q = true) (hp2 : fits p2 = true) (hq2 : fits q2 = true) (w : World) : (binOp .eql 34 (.agg (ints [p, q]).toArray) (.agg (ints [p2, q2]).toArray)).run Try.prog w = .ok (.bool (decide (p = p2 ∧ q = q2))) w := by
  have := eql_flat 4 4 34 _ _ _ w flatIdS (by kernel_rfl) (by kernel_rfl) (by kernel_rfl) (by decide) (okIdS hp hq) (okIdS hp2 hq2)
  rw [same_idS hp hq hp2 hq2] at this
  exact this
theorem egIdS : Try.prog.eqGuardType Try.prog.depth 34 = false := by kernel_rfl
theorem rowIdS : RowT 34 2 := ⟨⟨_, Try.underlying34, rfl⟩, by kernel_rfl⟩
/-- does change j bear the Id? the first that does. -/
def hitC (L : List Int) (r q : Int) (j : Nat) : Bool := decide (L.getD (j * 9) 0 = r ∧ L.getD (j * 9 + 1) 0 = q)
def idxC (L : List Int) (r q : Int) : Nat → Int
  | 0 => -1
  | k + 1 => if idxC L r q k = -1 then (if hitC L r q k = true then (k : Int) else -1) else idxC L r q k
theorem idxC_step {L : List Int} {r q : Int} {i : Nat} (h : idxC L r q i = -1) (hb : hitC L r q i = false) : idxC L r q (i + 1) = -1 := by
  unfold idxC; rw [if_pos h, hb]; rfl
theorem idxC_hit {L : List Int} {r q : Int} {i : Nat} (h : idxC L r q i = -1) (hb : hitC L r q i = true) : ∀ n, i < n → idxC L r q n = i := by
  intro n hn
  induction n with
  | zero => omega
  | succ n ih =>
    by_cases hi : i = n
    · subst hi; unfold idxC; rw [if_pos h, if_pos hb]
    · have := ih (by omega)
      unfold idxC; rw [if_neg (by omega)]; exact this
theorem ids_of {L : List Int} {n i : Nat} (hl : L.length = n * 9) (hi : i < n) : (rAt 9 L i).take 2 = [L.getD (i * 9) 0, L.getD (i * 9 + 1) 0] := by
  have h := rAt_len hl hi
  have h0 := rAt_get (L := L) (i := i) (k := 0) (s := 9) (by decide)
  have h1 := rAt_get (L := L) (i := i) (k := 1) (s := 9) (by decide)
  obtain ⟨p, q, t, k, a, b, n, r, s, e⟩ := nine h
  rw [e] at h0 h1 ⊢
  rw [← h1, ← show _ = L.getD (i * 9) 0 from h0]
  rfl
set_option maxHeartbeats 2000000 in
theorem fclo_any (X : List Value) (x y r q : Int) (gc : Nat) (w : World) (XI : Hid ((X.drop 0).take 2 = ints [x, y])) (hx : fits x = true) (hy : fits y = true) (hr : fits r = true) (hq : fits q = true) (hc : Hid (Blk w gc (ints [r, q]) 34)) :
    Calls Try.prog 34 #[.agg X.toArray, .pointer (some ⟨gc, 0, none⟩)] w fun e w' => e = .returned (.bool (decide (x = r ∧ y = q))) ∧ Below w.heap.size w w' := by
  have NE := Lib.hid (fun w => id_eqlS hx hy hr hq w)
  have A1 := Blk.new w X.toArray 36
  rw [List.toList_toArray] at A1
  have HB := Lib.hid ((Below.refl w.heap.size w).alloc (Nat.le_refl _) (.cells X.toArray 36))
  have HC1 := Lib.hid (hc.out.keep HB.out hc.out.lt)
  have TI : RowT 34 (ints [x, y]).length := rowIdS
  have TC : RowT 34 (ints [r, q]).length := rowIdS
  have XI2 : Hid ((X.drop 0).take (ints [x, y]).length = ints [x, y]) := Lib.hid XI.out
  generalize decide (x = r ∧ y = q) = v at *
  generalize ints [x, y] = Y at *
  generalize ints [r, q] = Z at *
  clear hx hy hr hq XI
  go_enter Try.func34, Try.ntmps34
  go_upto_region 1 with fail
  generalize w.alloc (.cells X.toArray 36) = W at *
  have ri : W.rangeAt w.heap.size 0 Y := A1.range 0 _ XI2.out
  have rc : W.rangeAt gc 0 Z := HC1.out.range 0 _ (by simp)
  clear A1
  go_wp2_with (first
    | ((with_reducible refine ld_row ri TI ?_ ?_ ?_); (· rfl); (· rfl); (simp only [Act.put, List.setIfInBounds_toArray, List.set_cons_zero, List.set_cons_succ]))
    | ((with_reducible refine ld_row rc TC ?_ ?_ ?_); (· rfl); (· rfl); (simp only [Act.put, List.setIfInBounds_toArray, List.set_cons_zero, List.set_cons_succ]))
    | ((with_reducible refine cmp_row egIdS NE.out ?_ ?_ ?_ ?_); (· rfl); (· rfl); (· rfl); (simp only [Act.put, List.setIfInBounds_toArray, List.set_cons_zero, List.set_cons_succ])))
  go_ret
  exact ⟨rfl, HB.out⟩
set_option maxHeartbeats 2000000 in
theorem idxfC_any (a : Option Addr) (n c : Nat) (L : List Int) (r q : Int) (gc : Nat) (w : World) (HS : Hid (Sl w a n 9 (ints L))) (hf : Hid (∀ k, fits (L.getD k 0) = true)) (hr : fits r = true) (hq : fits q = true) (hc : Hid (Blk w gc (ints [r, q]) 34)) (hn : n ≤ 1000) :
    Calls Try.prog 33 #[.slice a n c, .func (.func 34) #[] #[.pointer (some ⟨gc, 0, none⟩)]] w fun e w' => e = .returned (.int .i64 (idxC L r q n)) ∧ Below w.heap.size w w' := by
  have ST := Lib.hid (fun i => @idxC_step L r q i)
  have HT := Lib.hid (fun i (h : idxC L r q i = -1) (hb : hitC L r q i = true) => idxC_hit h hb n)
  have Z0 : Hid (idxC L r q 0 = -1) := Lib.hid rfl
  have HR := Lib.hid hr
  have HQ := Lib.hid hq
  have HL : Hid (L.length = n * 9) := Lib.hid (by have := HS.out.1; rwa [ints_len] at this)
  clear hr hq
  go_enter Try.func33, Try.ntmps33
  go_upto_region 2 with fail
  go_loopg [8] n (fun g s5 wr => ∃ i : Nat, g + i = n ∧ s5 = .int .i64 i ∧ Hid (Below w.heap.size w wr) ∧ Hid (idxC L r q i = -1))
  case atStart => exact ⟨0, rfl, rfl, Lib.hid (Below.refl w.heap.size w), Z0⟩
  case round =>
    obtain ⟨i, hqi, rfl, hbr, hpre⟩ := hrel
    by_cases hi : i < n
    · obtain ⟨b, off, rfl, hlc, hra⟩ := rAt_at (HS.out.keep hbr.out) hi
      have TO : RowT 36 (ints (rAt 9 L i)).length := by rw [ints_len, rAt_len HL.out hi]; exact rowChg
      have XI : Hid (((ints (rAt 9 L i)).drop 0).take 2 = ints [L.getD (i * 9) 0, L.getD (i * 9 + 1) 0]) := Lib.hid (by rw [List.drop_zero, ← ids_of HL.out hi]; unfold ints; rw [List.map_take])
      have CL : Hid (Calls Try.prog 34 #[.agg (ints (rAt 9 L i)).toArray, .pointer (some ⟨gc, 0, none⟩)] wr fun e w' => e = .returned (.bool (hitC L r q i)) ∧ Below wr.heap.size wr w') := Lib.hid (fclo_any (ints (rAt 9 L i)) _ _ r q gc wr XI (hf.out _) (hf.out _) HR.out HQ.out (Lib.hid (hc.out.keep hbr.out hc.out.lt)))
      have hs := Lib.hid (ST.out i hpre.out)
      have ht := Lib.hid (HT.out i hpre.out)
      clear XI
      generalize ints (rAt 9 L i) = X at *
      have hi0 : (0 : Int) ≤ i := by omega
      have hin : (i : Int) < n := by omega
      clear hlc
      go_wp2_with (first
        | ((with_reducible refine ld_row hra TO ?_ ?_ ?_); (· rfl); (· rfl); (simp only [Act.put, List.setIfInBounds_toArray, List.set_cons_zero, List.set_cons_succ])))
      refine CL.out.mono ?_
      rintro e w2 ⟨rfl, hb2⟩
      have hbr2 := Lib.hid (hbr.out.trans (hb2.mono hbr.out.size))
      clear hb2 hra hbr CL
      rcases hv : hitC L r q i with _ | _
      · have hp2 := Lib.hid (hs.out hv)
        clear hv hs ht
        go_wp2_with fail
        go_roundg (gk - 1)
        case measure => omega
        case rel => exact ⟨i + 1, by omega, by go_num, hbr2, hp2⟩
      · have HR2 := Lib.hid (ht.out hv hi)
        clear hv hs ht
        go_wp2_with fail
        go_ret
        exact ⟨by rw [HR2.out]; rfl, hbr2.out⟩
    · have hin : ¬ (i : Int) < n := by omega
      have hie : i = n := by omega
      have HR2 : Hid (idxC L r q n = -1) := Lib.hid (hie ▸ hpre.out)
      clear hie
      go_wp2_with fail
      go_ret
      exact ⟨by rw [HR2.out]; rfl, hbr.out⟩
theorem sfind_any (a : Option Addr) (n c : Nat) (L : List Int) (r q : Int) (w : World) (HS : Hid (Sl w a n 9 (ints L))) (hf : Hid (∀ k, fits (L.getD k 0) = true)) (hr : fits r = true) (hq : fits q = true) (hn : n ≤ 1000) :
    Calls Try.prog 23 #[.slice a n c, .agg #[.int .i64 r, .int .i64 q]] w fun e w' => e = .returned (.int .i64 (idxC L r q n)) ∧ Below w.heap.size w w' := by
  have HB := Lib.hid ((Below.refl w.heap.size w).alloc (Nat.le_refl _) (.cells #[.int .i64 r, .int .i64 q] 34))
  have C := Lib.hid (idxfC_any a n c L r q w.heap.size (w.alloc (.cells #[.int .i64 r, .int .i64 q] 34)) (Lib.hid (HS.out.keep HB.out)) hf hr hq (Lib.hid (Blk.new w #[.int .i64 r, .int .i64 q] 34)) hn)
  clear hr hq
  generalize idxC L r q n = k at *
  go_enter Try.func23, Try.ntmps23
  go_wp2_with fail
  refine C.out.mono ?_
  rintro e w2 ⟨rfl, hb⟩
  have HB2 := Lib.hid (HB.out.trans (hb.mono HB.out.size))
  clear hb
  go_wp2_with fail
  go_ret
  exact ⟨rfl, HB2.out⟩
end Go.Proofs.Ytcfipimhpeblbaa
