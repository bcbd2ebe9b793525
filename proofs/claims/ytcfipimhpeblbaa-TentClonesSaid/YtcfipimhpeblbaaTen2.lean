/- Tent.Free. -/
import Derived.Test.YtcfipimhpeblbaaTen1
import Derived.Deep.DeepCutAuto
import Derived.Maps.AppendAt
import Derived.Test.YtcfipimhpeblbaaRow
import Derived.Test.YtcfipimhpeblbaaOps
import Derived.RegionTactic
import Derived.BigRegion
import Derived.ChangeAlike
namespace Go.Proofs.Ytcfipimhpeblbaa
set_option linter.unusedVariables false
set_option linter.unusedSimpArgs false
open Go.ChangeShapes Go.WideShapes Go.ChangeAt Go.RowKit
def idxP (P : Nat → Bool) : Nat → Int
  | 0 => -1
  | k + 1 => if idxP P k = -1 then (if P k = true then (k : Int) else -1) else idxP P k
theorem idxP_step {P : Nat → Bool} {i : Nat} (h : idxP P i = -1) (hb : P i = false) : idxP P (i + 1) = -1 := by
  unfold idxP; rw [if_pos h, hb]; rfl
theorem idxP_hit {P : Nat → Bool} {i : Nat} (h : idxP P i = -1) (hb : P i = true) : ∀ n, i < n → idxP P n = i := by
  intro n hn
  induction n with
  | zero => omega
  | succ n ih =>
    by_cases hi : i = n
    · subst hi; unfold idxP; rw [if_pos h, if_pos hb]
    · have := ih (by omega)
      unfold idxP; rw [if_neg (by omega)]; exact this
def hitF (L : List Int) (r q : Int) (j : Nat) : Bool := decide (L.getD (j * 9) 0 = r ∧ L.getD (j * 9 + 1) 0 < q)
def freeV (L : List Int) (r q : Int) (n : Nat) : Bool := decide (0 ≤ idxC L r q n) && !decide (0 ≤ idxP (hitF L r q) n)
set_option maxHeartbeats 2000000 in
theorem ffree_any (x y r q : Int) (X : List Value) (gc : Nat) (w : World) (X0 : Hid (X[0]? = some (.int .i64 x))) (X1 : Hid (X[1]? = some (.int .i64 y))) (hc : Hid (Blk w gc (ints [r, q]) 34)) :
    Calls Try.prog 27 #[.agg X.toArray, .pointer (some ⟨gc, 0, none⟩)] w fun e w' => e = .returned (.bool (decide (x = r ∧ y < q))) ∧ Below w.heap.size w w' := by
  have A1 := Blk.new w X.toArray 36
  rw [List.toList_toArray] at A1
  have HB := Lib.hid ((Below.refl w.heap.size w).alloc (Nat.le_refl _) (.cells X.toArray 36))
  have C1 := Lib.hid (hc.out.keep HB.out hc.out.lt)
  obtain ⟨RV, hRV⟩ : ∃ RV, RV = decide (x = r ∧ y < q) := ⟨_, rfl⟩
  rw [← hRV]
  have HRV := Lib.hid hRV
  clear hRV
  go_enter Try.func27, Try.ntmps27
  go_upto_region 1 with fail
  generalize w.alloc (.cells X.toArray 36) = W at *
  have x0 : W.cell? ⟨w.heap.size, 0, none⟩ = some (.int .i64 x) := (A1.cell 0).trans X0.out
  have x1 : W.cell? ⟨w.heap.size, 1, none⟩ = some (.int .i64 y) := (A1.cell 1).trans X1.out
  have c0 : W.cell? ⟨gc, 0, none⟩ = some (.int .i64 r) := C1.out.cell 0
  have c1 : W.cell? ⟨gc, 1, none⟩ = some (.int .i64 q) := C1.out.cell 1
  clear A1
  by_cases h : x = r
  · by_cases h2 : y < q
    · have E := Lib.hid (show RV = true by rw [HRV.out]; exact decide_eq_true ⟨h, h2⟩)
      have hb : (x == r) = true := by simp [h]
      clear h
      go_wp2_with fail
      go_ret
      exact ⟨by rw [E.out]; rfl, HB.out⟩
    · have E := Lib.hid (show RV = false by rw [HRV.out]; exact decide_eq_false fun hh => h2 hh.2)
      have hb : (x == r) = true := by simp [h]
      clear h
      go_wp2_with fail
      go_ret
      exact ⟨by rw [E.out]; rfl, HB.out⟩
  · have E := Lib.hid (show RV = false by rw [HRV.out]; exact decide_eq_false fun hh => h hh.1)
    have hb : (x == r) = false := by simp [h]
    clear h
    go_wp2_with fail
    go_ret
    exact ⟨by rw [E.out]; rfl, HB.out⟩
set_option maxHeartbeats 2000000 in
theorem idxfF_any (a : Option Addr) (n c : Nat) (L : List Int) (r q : Int) (gc : Nat) (w : World) (HS : Hid (Sl w a n 9 (ints L))) (hc : Hid (Blk w gc (ints [r, q]) 34)) (hn : n ≤ 1000) :
    Calls Try.prog 33 #[.slice a n c, .func (.func 27) #[] #[.pointer (some ⟨gc, 0, none⟩)]] w fun e w' => e = .returned (.int .i64 (idxP (hitF L r q) n)) ∧ Below w.heap.size w w' := by
  have ST := Lib.hid (fun i => @idxP_step (hitF L r q) i)
  have HT := Lib.hid (fun i (h : idxP (hitF L r q) i = -1) (hb : hitF L r q i = true) => idxP_hit h hb n)
  have Z0 : Hid (idxP (hitF L r q) 0 = -1) := Lib.hid rfl
  have HL : Hid (L.length = n * 9) := Lib.hid (by have := HS.out.1; rwa [ints_len] at this)
  go_enter Try.func33, Try.ntmps33
  go_upto_region 2 with fail
  go_loopg [8] n (fun g s5 wr => ∃ i : Nat, g + i = n ∧ s5 = .int .i64 i ∧ Hid (Below w.heap.size w wr) ∧ Hid (idxP (hitF L r q) i = -1))
  case atStart => exact ⟨0, rfl, rfl, Lib.hid (Below.refl w.heap.size w), Z0⟩
  case round =>
    obtain ⟨i, hqi, rfl, hbr, hpre⟩ := hrel
    by_cases hi : i < n
    · obtain ⟨b, off, rfl, hlc, hra⟩ := rAt_at (HS.out.keep hbr.out) hi
      have LR := rAt_len HL.out hi
      have TO : RowT 36 (ints (rAt 9 L i)).length := by rw [ints_len, LR]; exact rowChg
      have X0 : Hid ((ints (rAt 9 L i))[0]? = some (.int .i64 (L.getD (i * 9) 0))) := Lib.hid (by rw [ints_get _ _ (by omega), rAt_get (by decide)]; rfl)
      have X1 : Hid ((ints (rAt 9 L i))[1]? = some (.int .i64 (L.getD (i * 9 + 1) 0))) := Lib.hid (by rw [ints_get _ _ (by omega), rAt_get (by decide)])
      have CL : Hid (Calls Try.prog 27 #[.agg (ints (rAt 9 L i)).toArray, .pointer (some ⟨gc, 0, none⟩)] wr fun e w' => e = .returned (.bool (hitF L r q i)) ∧ Below wr.heap.size wr w') := Lib.hid (ffree_any _ _ r q (ints (rAt 9 L i)) gc wr X0 X1 (Lib.hid (hc.out.keep hbr.out hc.out.lt)))
      have hs := Lib.hid (ST.out i hpre.out)
      have ht := Lib.hid (HT.out i hpre.out)
      clear X0 X1 LR
      generalize ints (rAt 9 L i) = X at *
      have hi0 : (0 : Int) ≤ i := by omega
      have hin : (i : Int) < n := by omega
      clear hlc
      go_wp2_with (first
        | ((with_reducible refine ld_row hra TO ?_ ?_ ?_); (· rfl); (· rfl); (simp only [Act.put, List.setIfInBounds_toArray, List.set_cons_zero, List.set_cons_succ])))
      refine CL.out.mono ?_
      rintro e w2 ⟨rfl, hb2⟩
      have hbr2 := Lib.hid (hbr.out.trans (hb2.mono hbr.out.size))
      clear hb2 hra hbr CL
      rcases hv : hitF L r q i with _ | _
      · have hp2 := Lib.hid (hs.out hv)
        clear hv hs ht
        go_wp2_with fail
        go_roundg (gk - 1)
        case measure => omega
        case rel => exact ⟨i + 1, by omega, by go_num, hbr2, hp2⟩
      · have HR2 := Lib.hid (ht.out hv hi)
        clear hv hs ht
        go_wp2_with fail
        go_ret
        exact ⟨by rw [HR2.out]; rfl, hbr2.out⟩
    · have hin : ¬ (i : Int) < n := by omega
      have hie : i = n := by omega
      have HR2 : Hid (idxP (hitF L r q) n = -1) := Lib.hid (hie ▸ hpre.out)
      clear hie
      go_wp2_with fail
      go_ret
      exact ⟨by rw [HR2.out]; rfl, hbr.out⟩
theorem containsF_any (a : Option Addr) (n c : Nat) (L : List Int) (r q : Int) (gc : Nat) (w : World) (HS : Hid (Sl w a n 9 (ints L))) (hc : Hid (Blk w gc (ints [r, q]) 34)) (hn : n ≤ 1000) :
    Calls Try.prog 26 #[.slice a n c, .func (.func 27) #[] #[.pointer (some ⟨gc, 0, none⟩)]] w fun e w' => e = .returned (.bool (decide (0 ≤ idxP (hitF L r q) n))) ∧ Below w.heap.size w w' := by
  have C := Lib.hid (idxfF_any a n c L r q gc w HS hc hn)
  generalize idxP (hitF L r q) n = k at *
  go_enter Try.func26, Try.ntmps26
  go_wp2_with fail
  refine C.out.mono ?_
  rintro e w2 ⟨rfl, hb⟩
  have HB2 := Lib.hid hb
  clear hb
  go_wp2_with fail
  go_ret
  exact ⟨rfl, HB2.out⟩
set_option maxRecDepth 100000 in
set_option maxHeartbeats 4000000 in
theorem tfree_any {{w : World}} {{g n c : Nat}} {{a : Option Addr}} {{L : List Int}} (T : Hid (Tn w g a n c L)) (r q : Int) (hf : Hid (∀ k, fits (L.getD k 0) = true)) (hr : fits r = true) (hq : fits q = true) (hn : n ≤ 999) :
    Calls Try.prog 17 #[.pointer (some ⟨g, 0, none⟩), .agg #[.int .i64 r, .int .i64 q]] w fun e w' => e = .returned (.bool (freeV L r q n)) ∧ Below w.heap.size w w' := by
  have HB := Lib.hid ((Below.refl w.heap.size w).alloc (Nat.le_refl _) (.cells #[.int .i64 r, .int .i64 q] 34))
  have C1 : Hid (Blk (w.alloc (.cells #[.int .i64 r, .int .i64 q] 34)) w.heap.size (ints [r, q]) 34) := Lib.hid (Blk.new w #[.int .i64 r, .int .i64 q] 34)
  have B1 := Lib.hid (T.out.b.alloc (.cells #[.int .i64 r, .int .i64 q] 34))
  have T1 := Lib.hid (T.out.keep HB.out)
  have FD0 := Lib.hid (fun w' hs => sfind_any a n c L r q w' (Lib.hid hs) hf hr hq (by omega))
  have CO := Lib.hid (fun gc w' (hs : Sl w' a n 9 (ints L)) (hb : Blk w' gc (ints [r, q]) 34) => containsF_any a n c L r q gc w' (Lib.hid hs) (Lib.hid hb) (by omega))
  obtain ⟨RV, hRV⟩ : ∃ RV, RV = freeV L r q n := ⟨_, rfl⟩
  rw [← hRV]
  unfold freeV at hRV
  have HRV := Lib.hid hRV
  clear hRV
  generalize idxC L r q n = ix at *
  generalize idxP (hitF L r q) n = iy at *
  clear hr hq
  go_enter Try.func17, Try.ntmps17
  go_upto_region 1 with fail
  generalize hg0 : w.heap.size = g0 at *
  have HG0 := Lib.hid hg0
  generalize w.alloc (.cells #[.int .i64 r, .int .i64 q] 34) = w1 at *
  clear hg0
  have FD := Lib.hid (fun w' (hb : Below w1.heap.size w1 w') => FD0.out w' (T1.out.s.keep hb))
  refine held_begin (fun w' => Below w1.heap.size w1 w') 11 [false, false, false, false, false, false, false, false, false, false, false] (by kernel_rfl) rfl (by rfl) ?_
  have hHeld : Below w1.heap.size w1 w1.drew := (Below.refl _ _).drew
  refine held_take (v := ?_) 0 5 [true, false, false, false, false, false, false, false, false, false, false] rfl (by rfl) (by rfl) (by kernel_rfl) (by kernel_rfl) (by kernel_rfl) (by rfl) (fun _ _ _ h => h) ?_ hHeld ?_
  rotate_left
  · intro w hSw; go_simp <;> with_reducible rfl
  simp only [Act.put, List.setIfInBounds_toArray, List.set_cons_zero, List.set_cons_succ]
  refine held_take (v := .bool false) 1 6 [true, true, false, false, false, false, false, false, false, false, false] rfl (by rfl) (by rfl) (by kernel_rfl) (by kernel_rfl) (by kernel_rfl) (by rfl) (fun _ _ _ h => h) (fun w' h => by first | (go_simp; done) | (go_simp <;> rfl)) hHeld ?_
  simp only [Act.put, List.setIfInBounds_toArray, List.set_cons_zero, List.set_cons_succ]
  refine held_take (v := ?_) 2 7 [true, true, true, false, false, false, false, false, false, false, false] rfl (by rfl) (by rfl) (by kernel_rfl) (by kernel_rfl) (by kernel_rfl) (by rfl) (fun _ _ _ h => h) ?_ hHeld ?_
  rotate_left
  · intro w hSw; go_simp <;> with_reducible rfl
  simp only [Act.put, List.setIfInBounds_toArray, List.set_cons_zero, List.set_cons_succ]
  refine held_take (v := ?_) 3 8 [true, true, true, true, false, false, false, false, false, false, false] rfl (by rfl) (by rfl) (by kernel_rfl) (by kernel_rfl) (by kernel_rfl) (by rfl) (fun _ _ _ h => h) ?_ hHeld ?_
  rotate_left
  · intro w hSw; go_simp <;> with_reducible rfl
  simp only [Act.put, List.setIfInBounds_toArray, List.set_cons_zero, List.set_cons_succ]
  refine held_take (v := .pointer (some ⟨g, 0, none⟩)) 4 9 [true, true, true, true, true, false, false, false, false, false, false] rfl (by rfl) (by rfl) (by kernel_rfl) (by kernel_rfl) (by kernel_rfl) (by rfl) (fun _ _ _ h => h) (fun w' h => by first | (go_simp; done) | (go_simp <;> rfl)) hHeld ?_
  simp only [Act.put, List.setIfInBounds_toArray, List.set_cons_zero, List.set_cons_succ]
  refine held_take (v := .pointer (some ⟨g, 0, none⟩)) 5 10 [true, true, true, true, true, true, false, false, false, false, false] rfl (by rfl) (by rfl) (by kernel_rfl) (by kernel_rfl) (by kernel_rfl) (by rfl) (fun _ _ _ h => h) (fun w' h => by first | (go_simp; done) | (go_simp <;> rfl)) hHeld ?_
  simp only [Act.put, List.setIfInBounds_toArray, List.set_cons_zero, List.set_cons_succ]
  refine held_take (v := .slice a n c) 6 11 [true, true, true, true, true, true, true, false, false, false, false] rfl (by rfl) (by rfl) (by kernel_rfl) (by kernel_rfl) (by kernel_rfl) (by rfl) (fun _ _ _ h => h) (fun w' h => run_op_one rfl rfl Try.underlying24 rfl ((B1.out.keep h B1.out.lt).cell 0)) hHeld ?_
  simp only [Act.put, List.setIfInBounds_toArray, List.set_cons_zero, List.set_cons_succ]
  refine held_take (v := .agg #[.int .i64 r, .int .i64 q]) 7 12 [true, true, true, true, true, true, true, true, false, false, false] rfl (by rfl) (by rfl) (by kernel_rfl) (by kernel_rfl) (by kernel_rfl) (by rfl) (fun _ _ _ h => h) (fun w' h => run_op_load rfl rfl ((C1.out.keep h C1.out.lt).range 0 (ints [r, q]) rfl) Try.underlying34 rfl rfl) hHeld ?_
  simp only [Act.put, List.setIfInBounds_toArray, List.set_cons_zero, List.set_cons_succ]
  refine held_call 8 13 [true, true, true, true, true, true, true, true, true, false, false] (by kernel_rfl) rfl (by rfl) (by rfl) (by rfl) (by go_simp) ((FD.out _ hHeld).mono ?_)
  rintro e w4 ⟨rfl, hb4⟩
  refine ⟨_, rfl, hHeld.trans (hb4.mono hHeld.size), fun hHeld => ?_⟩
  simp only [Act.put, List.setIfInBounds_toArray, List.set_cons_zero, List.set_cons_succ]
  refine held_take (v := ?_) 9 14 [true, true, true, true, true, true, true, true, true, true, false] rfl (by rfl) (by rfl) (by kernel_rfl) (by kernel_rfl) (by kernel_rfl) (by rfl) (fun _ _ _ h => h) ?_ hHeld ?_
  rotate_left
  · intro w hSw; go_simp <;> with_reducible rfl
  simp only [Act.put, List.setIfInBounds_toArray, List.set_cons_zero, List.set_cons_succ]
  refine held_take (v := ?_) 10 15 [true, true, true, true, true, true, true, true, true, true, true] rfl (by rfl) (by rfl) (by kernel_rfl) (by kernel_rfl) (by kernel_rfl) (by rfl) (fun _ _ _ h => h) ?_ hHeld ?_
  rotate_left
  · intro w hSw; go_simp <;> with_reducible rfl
  simp only [Act.put, List.setIfInBounds_toArray, List.set_cons_zero, List.set_cons_succ]
  refine held_done (by kernel_rfl) ?_
  have B2 := Lib.hid (B1.out.keep hHeld B1.out.lt)
  have C2 := Lib.hid (C1.out.keep hHeld C1.out.lt)
  have S2 := Lib.hid (T1.out.s.keep hHeld)
  have HB2 := Lib.hid (HB.out.trans (hHeld.mono (HG0.out ▸ HB.out.size)))
  clear hHeld B1 C1 T1 FD FD0
  by_cases hi : ix < 0
  · have E := Lib.hid (show RV = false by rw [HRV.out, decide_eq_false (by omega : ¬ 0 ≤ ix)]; rfl)
    go_wp2_with fail
    go_ret
    have hge := HG0.out
    subst hge
    exact ⟨by rw [E.out]; rfl, HB2.out⟩
  · have E := Lib.hid (show RV = !decide (0 ≤ iy) by rw [HRV.out, decide_eq_true (by omega : 0 ≤ ix)]; rfl)
    have hcell := B2.out.cell 0
    have CO2 := Lib.hid (CO.out g0 _ S2.out C2.out)
    go_wp2_with fail
    refine CO2.out.mono ?_
    rintro e w5 ⟨rfl, hb⟩
    have HB5 := Lib.hid (HB2.out.trans (hb.mono (HG0.out ▸ HB2.out.size)))
    clear hb hcell
    go_wp2_with fail
    go_ret
    have hge := HG0.out
    subst hge
    exact ⟨by rw [E.out]; rfl, HB5.out⟩
end Go.Proofs.Ytcfipimhpeblbaa
