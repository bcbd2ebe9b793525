/- Get of a record of a change, and of none; what is read is written again. -/
import Derived.Test.YtfffbhkenggdcaaRec15
import Derived.Test.YtfffbhkenggdcaaRow
import Derived.Test.YtfffbhkenggdcaaOps
import Derived.Test.YtfffbhkenggdcaaEq
import Derived.Test.YtfffbhkenggdcaaChgOps
import Derived.RegionTactic
import Derived.BigRegion
import Derived.ChangeAlike
namespace Go.Proofs.Ytfffbhkenggdcaa
set_option linter.unusedVariables false
set_option linter.unusedSimpArgs false
open Go.ChangeShapes Go.WideShapes Go.ChangeAt Go.RowKit
theorem againM (bs : List UInt8) (hk : tkN (bs, true) 1 = 2) (ho : okM bs = true) (w : World) : Calls Try.prog 8 #[.agg (rec17 2 0 0 0 0 0 0 0 0 0 (fld bs 1 1) (fld bs 2 2) 0 0 0 false 0).toArray] w fun e w' => ∃ a' m' c', e = .returned (.tuple #[.slice a' m' c', .int .i64 0]) ∧ Sl w' a' m' 1 (bcells bs) ∧ Below w.heap.size w w' := by
  have C := chkM bs
  have E := encM hk
  have EQ : bs.length = 4 → rec17 2 0 0 0 0 0 0 0 0 0 (wrap64 (tkN (tkS (bs, true) 1) 1 : Int)) (wrap64 (tkN (tkS (tkS (bs, true) 1) 1) 2 : Int)) 0 0 0 false 0 = rec17 2 0 0 0 0 0 0 0 0 0 (fld bs 1 1) (fld bs 2 2) 0 0 0 false 0 := by
    intro hl
    obtain ⟨e1, e2, _⟩ := rd_id (bs := bs) (by omega)
    rw [e1, e2]
  unfold okM at ho
  rw [Bool.and_eq_true, decide_eq_true_eq] at ho
  obtain ⟨hl, hv0⟩ := ho
  have hv : mayId (wrap64 (tkN (tkS (bs, true) 1) 1 : Int)) (wrap64 (tkN (tkS (tkS (bs, true) 1) 1) 2 : Int)) = true := by
    obtain ⟨e1, e2, _⟩ := rd_id (bs := bs) (by omega)
    rw [e1, e2]
    exact hv0
  rw [hv, if_pos rfl] at C
  rw [← EQ hl]
  refine (rput_M (wrap64 (tkN (tkS (bs, true) 1) 1 : Int)) (wrap64 (tkN (tkS (tkS (bs, true) 1) 1) 2 : Int)) C w).mono ?_
  rintro e w' ⟨a', c', h1, h2, h3⟩
  exact ⟨a', _, c', h1, by rw [E.2 hl] at h2; exact h2, h3⟩
theorem againA (bs : List UInt8) (hk : tkN (bs, true) 1 = 4) (ho : okA bs = true) (w : World) : Calls Try.prog 8 #[.agg (rec17 4 0 0 0 0 0 0 0 0 0 0 0 (fld bs 1 1) (fld bs 2 2) (fld bs 4 1) (decide ((numOf ((bs.drop 5).take 1) : Int) = 1)) 0).toArray] w fun e w' => ∃ a' m' c', e = .returned (.tuple #[.slice a' m' c', .int .i64 0]) ∧ Sl w' a' m' 1 (bcells bs) ∧ Below w.heap.size w w' := by
  have C := chkA bs
  have E := encA hk
  have EQ : bs.length = 6 ∧ numOf ((bs.drop 5).take 1) ≤ 1 → rec17 4 0 0 0 0 0 0 0 0 0 0 0 (wrap64 (tkN (tkS (bs, true) 1) 1 : Int)) (wrap64 (tkN (tkS (tkS (bs, true) 1) 1) 2 : Int)) (tkyN (tkS (bs, true) 1)) (decide ((tkyU (tkS (bs, true) 1) : Int) = 1)) 0 = rec17 4 0 0 0 0 0 0 0 0 0 0 0 (fld bs 1 1) (fld bs 2 2) (fld bs 4 1) (decide ((numOf ((bs.drop 5).take 1) : Int) = 1)) 0 := by
    intro hl
    obtain ⟨e1, e2, _⟩ := rd_id (bs := bs) (by omega)
    obtain ⟨e3, e4, e5⟩ := rd_key (bs := bs) (by omega)
    rw [e1, e2, e3, e4]
  unfold okA at ho
  rw [Bool.and_eq_true, decide_eq_true_eq] at ho
  obtain ⟨hl, hv0⟩ := ho
  have hv : mayKey (wrap64 (tkN (tkS (bs, true) 1) 1 : Int)) (wrap64 (tkN (tkS (tkS (bs, true) 1) 1) 2 : Int)) (tkyN (tkS (bs, true) 1)) = true := by
    obtain ⟨e1, e2, _⟩ := rd_id (bs := bs) (by omega)
    obtain ⟨e3, e4, e5⟩ := rd_key (bs := bs) (by omega)
    rw [e1, e2, e3]
    exact hv0
  rw [hv, if_pos rfl] at C
  rw [← EQ hl]
  refine (rput_A (wrap64 (tkN (tkS (bs, true) 1) 1 : Int)) (wrap64 (tkN (tkS (tkS (bs, true) 1) 1) 2 : Int)) (tkyN (tkS (bs, true) 1)) (decide ((tkyU (tkS (bs, true) 1) : Int) = 1)) C w).mono ?_
  rintro e w' ⟨a', c', h1, h2, h3⟩
  exact ⟨a', _, c', h1, by rw [E.2 hl] at h2; exact h2, h3⟩
theorem againT (bs : List UInt8) (hk : tkN (bs, true) 1 = 3) (ho : okT bs = true) (w : World) : Calls Try.prog 8 #[.agg (rec17 3 0 0 0 0 0 0 0 0 0 0 0 (fld bs 1 1) (fld bs 2 2) (fld bs 4 1) (decide ((numOf ((bs.drop 5).take 1) : Int) = 1)) (fld bs 6 4)).toArray] w fun e w' => ∃ a' m' c', e = .returned (.tuple #[.slice a' m' c', .int .i64 0]) ∧ Sl w' a' m' 1 (bcells bs) ∧ Below w.heap.size w w' := by
  have C := chkT bs
  have E := encT hk
  have EQ : bs.length = 10 ∧ numOf ((bs.drop 5).take 1) ≤ 1 → rec17 3 0 0 0 0 0 0 0 0 0 0 0 (wrap64 (tkN (tkS (bs, true) 1) 1 : Int)) (wrap64 (tkN (tkS (tkS (bs, true) 1) 1) 2 : Int)) (tkyN (tkS (bs, true) 1)) (decide ((tkyU (tkS (bs, true) 1) : Int) = 1)) (wrap64 (tkN (tkyS (tkS (bs, true) 1)) 4 : Int)) = rec17 3 0 0 0 0 0 0 0 0 0 0 0 (fld bs 1 1) (fld bs 2 2) (fld bs 4 1) (decide ((numOf ((bs.drop 5).take 1) : Int) = 1)) (fld bs 6 4) := by
    intro hl
    obtain ⟨e1, e2, _⟩ := rd_id (bs := bs) (by omega)
    obtain ⟨e3, e4, e5⟩ := rd_key (bs := bs) (by omega)
    have e6 := (tk_ok (s := (bs.drop 6, true)) (k := 4) rfl (by show 4 ≤ (bs.drop 6).length; rw [List.length_drop]; omega)).1
    rw [e1, e2, e3, e4, e5, e6]
    rfl
  unfold okT at ho
  rw [Bool.and_eq_true, decide_eq_true_eq] at ho
  obtain ⟨hl, hv0⟩ := ho
  have hv : (mayKey (wrap64 (tkN (tkS (bs, true) 1) 1 : Int)) (wrap64 (tkN (tkS (tkS (bs, true) 1) 1) 2 : Int)) (tkyN (tkS (bs, true) 1)) && inB (wrap64 (tkN (tkyS (tkS (bs, true) 1)) 4 : Int)) 0 1073741824) = true := by
    obtain ⟨e1, e2, _⟩ := rd_id (bs := bs) (by omega)
    obtain ⟨e3, e4, e5⟩ := rd_key (bs := bs) (by omega)
    have e6 := (tk_ok (s := (bs.drop 6, true)) (k := 4) rfl (by show 4 ≤ (bs.drop 6).length; rw [List.length_drop]; omega)).1
    have e7 : (wrap64 (tkN (tkyS (tkS (bs, true) 1)) 4 : Int)) = fld bs 6 4 := by rw [e5, e6]; rfl
    rw [e7, e1, e2, e3]
    exact hv0
  rw [hv, if_pos rfl] at C
  rw [← EQ hl]
  refine (rput_T (wrap64 (tkN (tkS (bs, true) 1) 1 : Int)) (wrap64 (tkN (tkS (tkS (bs, true) 1) 1) 2 : Int)) (tkyN (tkS (bs, true) 1)) (decide ((tkyU (tkS (bs, true) 1) : Int) = 1)) (wrap64 (tkN (tkyS (tkS (bs, true) 1)) 4 : Int)) C w).mono ?_
  rintro e w' ⟨a', c', h1, h2, h3⟩
  exact ⟨a', _, c', h1, by rw [E.2 hl] at h2; exact h2, h3⟩
def okC (bs : List UInt8) : Bool := okChg (bs.drop 1)
theorem chgV_fit (bs : List UInt8) (j : Nat) : fits ((chgV bs).getD j 0) = true := by
  have h : ∀ z ∈ chgV bs, fits z = true := by
    intro z hz
    unfold chgV at hz
    split at hz
    · simp only [List.mem_cons, List.not_mem_nil, or_false] at hz
      rcases hz with rfl | rfl | rfl | rfl | rfl | rfl | rfl | rfl | rfl <;> exact fld_fit _ _ _
    · simp only [List.mem_cons, List.not_mem_nil, or_false] at hz
      rcases hz with rfl | rfl | rfl | rfl | rfl | rfl | rfl | rfl | rfl <;> exact fits_zero
  rcases Nat.lt_or_ge j (chgV bs).length with hj | hj
  · rw [List.getD_eq_getElem?_getD, List.getElem?_eq_getElem hj]
    exact h _ (List.getElem_mem hj)
  · rw [List.getD_eq_getElem?_getD, List.getElem?_eq_none hj]; exact fits_zero
theorem chgV_yes {bs : List UInt8} (h : okChg bs = true) : chgV bs = [fld bs 0 1, fld bs 1 2, fld bs 3 4, fld bs 7 1, fld bs 8 1, fld bs 9 1, fld bs 10 8, fld bs 18 1, fld bs 19 2] := by unfold chgV; rw [if_pos h]
theorem chgV_no {bs : List UInt8} (h : okChg bs = false) : chgV bs = [0, 0, 0, 0, 0, 0, 0, 0, 0] := by unfold chgV; rw [if_neg (by rw [h]; decide)]
theorem may9 (a b c d e f g h i : Int) : mayChg (([a, b, c, d, e, f, g, h, i] : List Int).getD 0 0) (([a, b, c, d, e, f, g, h, i] : List Int).getD 1 0) (([a, b, c, d, e, f, g, h, i] : List Int).getD 2 0) (([a, b, c, d, e, f, g, h, i] : List Int).getD 3 0) (([a, b, c, d, e, f, g, h, i] : List Int).getD 4 0) (([a, b, c, d, e, f, g, h, i] : List Int).getD 5 0) (([a, b, c, d, e, f, g, h, i] : List Int).getD 7 0) (([a, b, c, d, e, f, g, h, i] : List Int).getD 8 0) = mayChg a b c d e f h i := rfl
theorem enc9 (a b c d e f g h i : Int) : encOf (([a, b, c, d, e, f, g, h, i] : List Int).getD 0 0) (([a, b, c, d, e, f, g, h, i] : List Int).getD 1 0) (([a, b, c, d, e, f, g, h, i] : List Int).getD 2 0) (([a, b, c, d, e, f, g, h, i] : List Int).getD 3 0) (([a, b, c, d, e, f, g, h, i] : List Int).getD 4 0) (([a, b, c, d, e, f, g, h, i] : List Int).getD 5 0) (([a, b, c, d, e, f, g, h, i] : List Int).getD 6 0) (([a, b, c, d, e, f, g, h, i] : List Int).getD 7 0) (([a, b, c, d, e, f, g, h, i] : List Int).getD 8 0) = encOf a b c d e f g h i := rfl
theorem may_chgV (bs : List UInt8) : mayChg ((chgV bs).getD 0 0) ((chgV bs).getD 1 0) ((chgV bs).getD 2 0) ((chgV bs).getD 3 0) ((chgV bs).getD 4 0) ((chgV bs).getD 5 0) ((chgV bs).getD 7 0) ((chgV bs).getD 8 0) = okChg bs := by
  rcases h : okChg bs with _ | _
  · rw [chgV_no h, may9]; decide
  · rw [chgV_yes h, may9]
    exact (of_decide_eq_true h).2.2
theorem enc_chgV {bs : List UInt8} (h : okChg bs = true) : encOf ((chgV bs).getD 0 0) ((chgV bs).getD 1 0) ((chgV bs).getD 2 0) ((chgV bs).getD 3 0) ((chgV bs).getD 4 0) ((chgV bs).getD 5 0) ((chgV bs).getD 6 0) ((chgV bs).getD 7 0) ((chgV bs).getD 8 0) = bs := by
  have hh := of_decide_eq_true h
  rw [chgV_yes h, enc9]
  exact enc_dec hh.1 hh.2.1
theorem chkC (bs : List UInt8) : Hid (∀ w, Calls Try.prog 14 #[.agg (recC (chgV (bs.drop 1))).toArray] w fun e w' => e = .returned (.int .i64 (if okC bs = true then 0 else 4)) ∧ Below w.heap.size w w') :=
  chk_own (ky := 1) (ok17 (by intro z hz; simp only [List.mem_cons, List.not_mem_nil, or_false] at hz; rcases hz with rfl | rfl | rfl | rfl | rfl | rfl | rfl | rfl | rfl | rfl | rfl | rfl | rfl | rfl | rfl | rfl <;> first | exact fits_zero | exact chgV_fit _ _ | decide)) (rec17_ok 1 ((chgV (bs.drop 1)).getD 0 0) ((chgV (bs.drop 1)).getD 1 0) ((chgV (bs.drop 1)).getD 2 0) ((chgV (bs.drop 1)).getD 3 0) ((chgV (bs.drop 1)).getD 4 0) ((chgV (bs.drop 1)).getD 5 0) ((chgV (bs.drop 1)).getD 6 0) ((chgV (bs.drop 1)).getD 7 0) ((chgV (bs.drop 1)).getD 8 0) 0 0 0 0 0 false 0) rfl (by decide) (Lib.hid fun w => by
    have := fieldsC_any ((chgV (bs.drop 1)).getD 0 0) ((chgV (bs.drop 1)).getD 1 0) ((chgV (bs.drop 1)).getD 2 0) ((chgV (bs.drop 1)).getD 3 0) ((chgV (bs.drop 1)).getD 4 0) ((chgV (bs.drop 1)).getD 5 0) ((chgV (bs.drop 1)).getD 6 0) ((chgV (bs.drop 1)).getD 7 0) ((chgV (bs.drop 1)).getD 8 0) 0 0 0 0 0 false 0 w
    have e : decide (chkChg ((chgV (bs.drop 1)).getD 0 0) ((chgV (bs.drop 1)).getD 1 0) ((chgV (bs.drop 1)).getD 2 0) ((chgV (bs.drop 1)).getD 3 0) ((chgV (bs.drop 1)).getD 4 0) ((chgV (bs.drop 1)).getD 5 0) ((chgV (bs.drop 1)).getD 7 0) ((chgV (bs.drop 1)).getD 8 0) = 0) = okC bs := by
      unfold chkChg okC; rw [may_chgV]; cases okChg (bs.drop 1) <;> rfl
    rw [e] at this
    exact this)
theorem putC {bs : List UInt8} (hk : tkN (bs, true) 1 = 1) (ho : okC bs = true) (w : World) : Calls Try.prog 8 #[.agg (recC (chgV (bs.drop 1))).toArray] w fun e w' => ∃ a' m' c', e = .returned (.tuple #[.slice a' m' c', .int .i64 0]) ∧ Sl w' a' m' 1 (bcells bs) ∧ Below w.heap.size w w' := by
  have C := chkC bs
  rw [ho, if_pos rfl] at C
  refine (rput_C ((chgV (bs.drop 1)).getD 0 0) ((chgV (bs.drop 1)).getD 1 0) ((chgV (bs.drop 1)).getD 2 0) ((chgV (bs.drop 1)).getD 3 0) ((chgV (bs.drop 1)).getD 4 0) ((chgV (bs.drop 1)).getD 5 0) ((chgV (bs.drop 1)).getD 6 0) ((chgV (bs.drop 1)).getD 7 0) ((chgV (bs.drop 1)).getD 8 0) C w (by rw [may_chgV]; exact ho)).mono ?_
  rintro e w' ⟨a', c', h1, h2, h3⟩
  refine ⟨a', 23, c', h1, ?_, h3⟩
  rw [enc_chgV ho] at h2
  rw [head_of (k := 1) hk (by decide)]
  exact h2
theorem recgetC (a : Option Addr) (n c : Nat) (bs : List UInt8) (w : World) (h : Sl w a n 1 (bcells bs)) (hn : n ≤ 140737488355328) (hk : tkN (bs, true) 1 = 1) :
    Calls Try.prog 6 #[.slice a n c] w fun e w' => e = .returned (.tuple #[.agg (getX (okC bs) (recC (chgV (bs.drop 1)))).toArray, .int .i64 (getC (okC bs))]) ∧ Below w.heap.size w w' := by
  have hl := sl_one h
  have C := chkC bs
  have HV : Hid ((recC (chgV (bs.drop 1))).length = 17 ∧ ∀ u ∈ recC (chgV (bs.drop 1)), u.oneCell' = true) := rec17_ok 1 ((chgV (bs.drop 1)).getD 0 0) ((chgV (bs.drop 1)).getD 1 0) ((chgV (bs.drop 1)).getD 2 0) ((chgV (bs.drop 1)).getD 3 0) ((chgV (bs.drop 1)).getD 4 0) ((chgV (bs.drop 1)).getD 5 0) ((chgV (bs.drop 1)).getD 6 0) ((chgV (bs.drop 1)).getD 7 0) ((chgV (bs.drop 1)).getD 8 0) 0 0 0 0 0 false 0
  have RD : Hid (∀ g w, RdS w.heap.size w g (bs, true) → Calls Try.prog 16 #[.pointer (some ⟨g, 0, none⟩)] w fun e w' => e = .returned (.agg (recC (chgV (bs.drop 1))).toArray) ∧ w.grownBy w' (some g)) := Lib.hid (fun g w hr => readC_any hr (Nat.le_refl _) hk (by show bs.length ≤ _; omega))
  rcases hv : okC bs with _ | _
  · rw [hv, if_neg (by decide)] at C
    refine (rget_of (enc := []) (code := 4) a n c w h hn HV RD (Lib.hid fun w => (rput_no HV (by decide) C w).mono fun e w' h => ⟨none, 0, 0, h.1, ⟨rfl, Or.inl rfl⟩, h.2⟩)).mono ?_
    rintro e w' ⟨rfl, hb⟩
    exact ⟨got_eq (decide_eq_false (by rintro ⟨h, _⟩; cases h)) (fun h => by cases h), hb⟩
  · refine (rget_of (enc := bs) (code := 0) a n c w h hn HV RD (Lib.hid fun w => putC hk hv w)).mono ?_
    rintro e w' ⟨rfl, hb⟩
    exact ⟨got_eq (decide_eq_true ⟨rfl, rfl⟩) (fun _ => rfl), hb⟩
theorem recgetZ (a : Option Addr) (n c : Nat) (bs : List UInt8) (w : World) (h : Sl w a n 1 (bcells bs)) (hn : n ≤ 140737488355328) (hk : 4 < tkN (bs, true) 1 ∨ tkN (bs, true) 1 = 0) :
    Calls Try.prog 6 #[.slice a n c] w fun e w' => e = .returned (.tuple #[.agg (getX false (rec17 0 0 0 0 0 0 0 0 0 0 0 0 0 0 0 false 0)).toArray, .int .i64 (getC false)]) ∧ Below w.heap.size w w' := by
  have HV := rec17_ok 0 0 0 0 0 0 0 0 0 0 0 0 0 0 0 false 0
  have hX : OkAll (List.replicate 15 (some IntKind.i64) ++ ([none, some IntKind.i64] : List (Option IntKind))) (rec17 0 0 0 0 0 0 0 0 0 0 0 0 0 0 0 false 0) := ok17 (by intro z hz; simp only [List.mem_cons, List.not_mem_nil, or_false] at hz; rcases hz with rfl | rfl | rfl | rfl | rfl | rfl | rfl | rfl | rfl | rfl | rfl | rfl | rfl | rfl | rfl | rfl <;> decide)
  have C : Hid (∀ w, Calls Try.prog 14 #[.agg ((rec17 0 0 0 0 0 0 0 0 0 0 0 0 0 0 0 false 0)).toArray] w fun e w' => e = .returned (.int .i64 12) ∧ Below w.heap.size w w') := Lib.hid fun w => by
    have := check_of hX hX HV HV (ky := 0) rfl (Lib.hid fun w => fieldsZ_any w) w
    rw [if_pos rfl] at this
    exact this
  have RD : Hid (∀ g w, RdS w.heap.size w g (bs, true) → Calls Try.prog 16 #[.pointer (some ⟨g, 0, none⟩)] w fun e w' => e = .returned (.agg ((rec17 0 0 0 0 0 0 0 0 0 0 0 0 0 0 0 false 0)).toArray) ∧ w.grownBy w' (some g)) := Lib.hid (fun g w hr => (readZ_any hr (Nat.le_refl _) rfl hk).mono fun e w' h => ⟨h.1, h.2.2⟩)
  refine (rget_of (enc := []) (code := 12) a n c w h hn HV RD (Lib.hid fun w => (rput_no HV (by decide) C w).mono fun e w' h => ⟨none, 0, 0, h.1, ⟨rfl, Or.inl rfl⟩, h.2⟩)).mono ?_
  rintro e w' ⟨rfl, hb⟩
  exact ⟨got_eq (decide_eq_false (by rintro ⟨h, _⟩; cases h)) (fun h => by cases h), hb⟩
end Go.Proofs.Ytfffbhkenggdcaa
