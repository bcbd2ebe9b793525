/- Get of a record, by its kind. -/
import Derived.Test.YtfffbhkenggdcaaMath23
import Derived.Test.YtfffbhkenggdcaaRow
import Derived.Test.YtfffbhkenggdcaaOps
import Derived.Test.YtfffbhkenggdcaaEq
import Derived.Test.YtfffbhkenggdcaaChgOps
import Derived.RegionTactic
import Derived.BigRegion
import Derived.ChangeAlike
namespace Go.Proofs.Ytfffbhkenggdcaa
set_option linter.unusedVariables false
set_option linter.unusedSimpArgs false
open Go.ChangeShapes Go.WideShapes Go.ChangeAt Go.RowKit
theorem w64_fits (m : Nat) : fits (wrap64 (m : Int)) = true := by rw [fits_iff]; unfold wrap64; omega
theorem fld_fit (bs : List UInt8) (o k : Nat) : fits (fld bs o k) = true := by unfold fld s64; exact w64_fits _
theorem fits_zero : fits 0 = true := by decide
theorem got_eq {code : Int} {enc bs : List UInt8} {X Y : List Value} {ok : Bool} (h1 : gotB code enc bs = ok) (h2 : ok = true → X = Y) : Ending.returned (.tuple #[.agg (getX (gotB code enc bs) X).toArray, .int .i64 (getC (gotB code enc bs))]) = Ending.returned (.tuple #[.agg (getX ok Y).toArray, .int .i64 (getC ok)]) := by
  rw [h1]
  cases ok
  · rfl
  · rw [h2 rfl]
/-- Check of a record that has its kind's fields alone. -/
theorem chk_own {X : List Value} {ky : Int} {v : Bool} (hX : OkAll (List.replicate 15 (some IntKind.i64) ++ ([none, some IntKind.i64] : List (Option IntKind))) X) (vX : Hid (X.length = 17 ∧ ∀ u ∈ X, u.oneCell' = true)) (h0 : X[0]? = some (.int .i64 ky)) (hk : ky ≠ 0)
    (HF : Hid (∀ w, Calls Try.prog 25 #[.agg X.toArray] w fun e w' => e = .returned (.tuple #[.agg X.toArray, .bool v]) ∧ Below w.heap.size w w')) :
    Hid (∀ w, Calls Try.prog 14 #[.agg X.toArray] w fun e w' => e = .returned (.int .i64 (if v = true then 0 else 4)) ∧ Below w.heap.size w w') := Lib.hid fun w => by
  have := check_of hX hX vX vX h0 HF w
  rw [if_neg hk, sameB_refl] at this
  cases v
  · exact this
  · exact this
theorem chkM (bs : List UInt8) : Hid (∀ w, Calls Try.prog 14 #[.agg (rec17 2 0 0 0 0 0 0 0 0 0 (wrap64 (tkN (tkS (bs, true) 1) 1 : Int)) (wrap64 (tkN (tkS (tkS (bs, true) 1) 1) 2 : Int)) 0 0 0 false 0).toArray] w fun e w' => e = .returned (.int .i64 (if mayId (wrap64 (tkN (tkS (bs, true) 1) 1 : Int)) (wrap64 (tkN (tkS (tkS (bs, true) 1) 1) 2 : Int)) = true then 0 else 4)) ∧ Below w.heap.size w w') :=
  chk_own (ky := 2) (ok17 (by intro z hz; simp only [List.mem_cons, List.not_mem_nil, or_false] at hz; rcases hz with rfl | rfl | rfl | rfl | rfl | rfl | rfl | rfl | rfl | rfl | rfl | rfl | rfl | rfl | rfl | rfl <;> first | exact fits_zero | exact w64_fits _ | decide | (unfold tkyN; exact w64_fits _))) (rec17_ok 2 0 0 0 0 0 0 0 0 0 (wrap64 (tkN (tkS (bs, true) 1) 1 : Int)) (wrap64 (tkN (tkS (tkS (bs, true) 1) 1) 2 : Int)) 0 0 0 false 0) rfl (by decide) (Lib.hid fun w => fieldsM_any 0 0 0 0 0 0 0 0 0 (wrap64 (tkN (tkS (bs, true) 1) 1 : Int)) (wrap64 (tkN (tkS (tkS (bs, true) 1) 1) 2 : Int)) 0 0 0 false 0 w)
theorem recgetM (a : Option Addr) (n c : Nat) (bs : List UInt8) (w : World) (h : Sl w a n 1 (bcells bs)) (hn : n ≤ 140737488355328) (hk : tkN (bs, true) 1 = 2) :
    Calls Try.prog 6 #[.slice a n c] w fun e w' => e = .returned (.tuple #[.agg (getX (okM bs) (rec17 2 0 0 0 0 0 0 0 0 0 (fld bs 1 1) (fld bs 2 2) 0 0 0 false 0)).toArray, .int .i64 (getC (okM bs))]) ∧ Below w.heap.size w w' := by
  have C := chkM bs
  have E := encM hk
  have HV := rec17_ok 2 0 0 0 0 0 0 0 0 0 (wrap64 (tkN (tkS (bs, true) 1) 1 : Int)) (wrap64 (tkN (tkS (tkS (bs, true) 1) 1) 2 : Int)) 0 0 0 false 0
  have RD : Hid (∀ g w, RdS w.heap.size w g (bs, true) → Calls Try.prog 16 #[.pointer (some ⟨g, 0, none⟩)] w fun e w' => e = .returned (.agg (rec17 2 0 0 0 0 0 0 0 0 0 (wrap64 (tkN (tkS (bs, true) 1) 1 : Int)) (wrap64 (tkN (tkS (tkS (bs, true) 1) 1) 2 : Int)) 0 0 0 false 0).toArray) ∧ w.grownBy w' (some g)) := Lib.hid (fun g w hr => (readM_any hr (Nat.le_refl _) hk).mono fun e w' h => ⟨h.1, h.2.2⟩)
  have EQ : bs.length = 4 → rec17 2 0 0 0 0 0 0 0 0 0 (wrap64 (tkN (tkS (bs, true) 1) 1 : Int)) (wrap64 (tkN (tkS (tkS (bs, true) 1) 1) 2 : Int)) 0 0 0 false 0 = rec17 2 0 0 0 0 0 0 0 0 0 (fld bs 1 1) (fld bs 2 2) 0 0 0 false 0 := by
    intro hl
    obtain ⟨e1, e2, _⟩ := rd_id (bs := bs) (by omega)
    rw [e1, e2]
  rcases hv : mayId (wrap64 (tkN (tkS (bs, true) 1) 1 : Int)) (wrap64 (tkN (tkS (tkS (bs, true) 1) 1) 2 : Int)) with _ | _
  · rw [hv, if_neg (by decide)] at C
    refine (rget_of (enc := []) (code := 4) a n c w h hn HV RD (Lib.hid fun w => (rput_no HV (by decide) C w).mono fun e w' h => ⟨none, 0, 0, h.1, ⟨rfl, Or.inl rfl⟩, h.2⟩)).mono ?_
    rintro e w' ⟨rfl, hb⟩
    refine ⟨got_eq ?_ ?_, hb⟩
    · rw [show gotB 4 [] bs = false from decide_eq_false (by rintro ⟨h, _⟩; cases h)]
      unfold okM
      by_cases hl : bs.length = 4
      · rw [decide_eq_true hl, Bool.true_and]
        obtain ⟨e1, e2, _⟩ := rd_id (bs := bs) (by omega)
        rw [← e1, ← e2]
        exact hv.symm
      · rw [decide_eq_false hl, Bool.false_and]
    · intro ho
      unfold okM at ho
      rw [Bool.and_eq_true, decide_eq_true_eq] at ho
      exact EQ ho.1
  · rw [hv, if_pos rfl] at C
    refine (rget_of (enc := 2 :: idOcts (wrap64 (tkN (tkS (bs, true) 1) 1 : Int)) (wrap64 (tkN (tkS (tkS (bs, true) 1) 1) 2 : Int))) (code := 0) a n c w h hn HV RD (Lib.hid fun w => (rput_M (wrap64 (tkN (tkS (bs, true) 1) 1 : Int)) (wrap64 (tkN (tkS (tkS (bs, true) 1) 1) 2 : Int)) C w).mono fun e w' ⟨a', c', h1, h2, h3⟩ => ⟨a', _, c', h1, h2, h3⟩)).mono ?_
    rintro e w' ⟨rfl, hb⟩
    refine ⟨got_eq ?_ ?_, hb⟩
    · unfold okM
      by_cases hl : bs.length = 4
      · rw [decide_eq_true hl, Bool.true_and, show gotB 0 _ bs = true from decide_eq_true ⟨rfl, E.2 hl⟩]
        obtain ⟨e1, e2, _⟩ := rd_id (bs := bs) (by omega)
        rw [← e1, ← e2]
        exact hv.symm
      · rw [decide_eq_false hl, Bool.false_and]
        exact decide_eq_false (fun h => hl (E.1 h.2))
    · intro ho
      unfold okM at ho
      rw [Bool.and_eq_true, decide_eq_true_eq] at ho
      exact EQ ho.1
theorem chkA (bs : List UInt8) : Hid (∀ w, Calls Try.prog 14 #[.agg (rec17 4 0 0 0 0 0 0 0 0 0 0 0 (wrap64 (tkN (tkS (bs, true) 1) 1 : Int)) (wrap64 (tkN (tkS (tkS (bs, true) 1) 1) 2 : Int)) (tkyN (tkS (bs, true) 1)) (decide ((tkyU (tkS (bs, true) 1) : Int) = 1)) 0).toArray] w fun e w' => e = .returned (.int .i64 (if mayKey (wrap64 (tkN (tkS (bs, true) 1) 1 : Int)) (wrap64 (tkN (tkS (tkS (bs, true) 1) 1) 2 : Int)) (tkyN (tkS (bs, true) 1)) = true then 0 else 4)) ∧ Below w.heap.size w w') :=
  chk_own (ky := 4) (ok17 (by intro z hz; simp only [List.mem_cons, List.not_mem_nil, or_false] at hz; rcases hz with rfl | rfl | rfl | rfl | rfl | rfl | rfl | rfl | rfl | rfl | rfl | rfl | rfl | rfl | rfl | rfl <;> first | exact fits_zero | exact w64_fits _ | decide | (unfold tkyN; exact w64_fits _))) (rec17_ok 4 0 0 0 0 0 0 0 0 0 0 0 (wrap64 (tkN (tkS (bs, true) 1) 1 : Int)) (wrap64 (tkN (tkS (tkS (bs, true) 1) 1) 2 : Int)) (tkyN (tkS (bs, true) 1)) (decide ((tkyU (tkS (bs, true) 1) : Int) = 1)) 0) rfl (by decide) (Lib.hid fun w => fieldsA_any 0 0 0 0 0 0 0 0 0 0 0 (wrap64 (tkN (tkS (bs, true) 1) 1 : Int)) (wrap64 (tkN (tkS (tkS (bs, true) 1) 1) 2 : Int)) (tkyN (tkS (bs, true) 1)) (decide ((tkyU (tkS (bs, true) 1) : Int) = 1)) 0 w)
theorem recgetA (a : Option Addr) (n c : Nat) (bs : List UInt8) (w : World) (h : Sl w a n 1 (bcells bs)) (hn : n ≤ 140737488355328) (hk : tkN (bs, true) 1 = 4) :
    Calls Try.prog 6 #[.slice a n c] w fun e w' => e = .returned (.tuple #[.agg (getX (okA bs) (rec17 4 0 0 0 0 0 0 0 0 0 0 0 (fld bs 1 1) (fld bs 2 2) (fld bs 4 1) (decide ((numOf ((bs.drop 5).take 1) : Int) = 1)) 0)).toArray, .int .i64 (getC (okA bs))]) ∧ Below w.heap.size w w' := by
  have C := chkA bs
  have E := encA hk
  have HV := rec17_ok 4 0 0 0 0 0 0 0 0 0 0 0 (wrap64 (tkN (tkS (bs, true) 1) 1 : Int)) (wrap64 (tkN (tkS (tkS (bs, true) 1) 1) 2 : Int)) (tkyN (tkS (bs, true) 1)) (decide ((tkyU (tkS (bs, true) 1) : Int) = 1)) 0
  have RD : Hid (∀ g w, RdS w.heap.size w g (bs, true) → Calls Try.prog 16 #[.pointer (some ⟨g, 0, none⟩)] w fun e w' => e = .returned (.agg (rec17 4 0 0 0 0 0 0 0 0 0 0 0 (wrap64 (tkN (tkS (bs, true) 1) 1 : Int)) (wrap64 (tkN (tkS (tkS (bs, true) 1) 1) 2 : Int)) (tkyN (tkS (bs, true) 1)) (decide ((tkyU (tkS (bs, true) 1) : Int) = 1)) 0).toArray) ∧ w.grownBy w' (some g)) := Lib.hid (fun g w hr => (readA_any hr (Nat.le_refl _) hk).mono fun e w' h => ⟨h.1, h.2.2⟩)
  have EQ : bs.length = 6 ∧ numOf ((bs.drop 5).take 1) ≤ 1 → rec17 4 0 0 0 0 0 0 0 0 0 0 0 (wrap64 (tkN (tkS (bs, true) 1) 1 : Int)) (wrap64 (tkN (tkS (tkS (bs, true) 1) 1) 2 : Int)) (tkyN (tkS (bs, true) 1)) (decide ((tkyU (tkS (bs, true) 1) : Int) = 1)) 0 = rec17 4 0 0 0 0 0 0 0 0 0 0 0 (fld bs 1 1) (fld bs 2 2) (fld bs 4 1) (decide ((numOf ((bs.drop 5).take 1) : Int) = 1)) 0 := by
    intro hl
    obtain ⟨e1, e2, _⟩ := rd_id (bs := bs) (by omega)
    obtain ⟨e3, e4, e5⟩ := rd_key (bs := bs) (by omega)
    rw [e1, e2, e3, e4]
  rcases hv : mayKey (wrap64 (tkN (tkS (bs, true) 1) 1 : Int)) (wrap64 (tkN (tkS (tkS (bs, true) 1) 1) 2 : Int)) (tkyN (tkS (bs, true) 1)) with _ | _
  · rw [hv, if_neg (by decide)] at C
    refine (rget_of (enc := []) (code := 4) a n c w h hn HV RD (Lib.hid fun w => (rput_no HV (by decide) C w).mono fun e w' h => ⟨none, 0, 0, h.1, ⟨rfl, Or.inl rfl⟩, h.2⟩)).mono ?_
    rintro e w' ⟨rfl, hb⟩
    refine ⟨got_eq ?_ ?_, hb⟩
    · rw [show gotB 4 [] bs = false from decide_eq_false (by rintro ⟨h, _⟩; cases h)]
      unfold okA
      by_cases hl : bs.length = 6 ∧ numOf ((bs.drop 5).take 1) ≤ 1
      · rw [decide_eq_true hl, Bool.true_and]
        obtain ⟨e1, e2, _⟩ := rd_id (bs := bs) (by omega)
        obtain ⟨e3, e4, _⟩ := rd_key (bs := bs) (by omega)
        rw [← e1, ← e2, ← e3]
        exact hv.symm
      · rw [decide_eq_false hl, Bool.false_and]
    · intro ho
      unfold okA at ho
      rw [Bool.and_eq_true, decide_eq_true_eq] at ho
      exact EQ ho.1
  · rw [hv, if_pos rfl] at C
    refine (rget_of (enc := 4 :: keyOcts (wrap64 (tkN (tkS (bs, true) 1) 1 : Int)) (wrap64 (tkN (tkS (tkS (bs, true) 1) 1) 2 : Int)) (tkyN (tkS (bs, true) 1)) (decide ((tkyU (tkS (bs, true) 1) : Int) = 1))) (code := 0) a n c w h hn HV RD (Lib.hid fun w => (rput_A (wrap64 (tkN (tkS (bs, true) 1) 1 : Int)) (wrap64 (tkN (tkS (tkS (bs, true) 1) 1) 2 : Int)) (tkyN (tkS (bs, true) 1)) (decide ((tkyU (tkS (bs, true) 1) : Int) = 1)) C w).mono fun e w' ⟨a', c', h1, h2, h3⟩ => ⟨a', _, c', h1, h2, h3⟩)).mono ?_
    rintro e w' ⟨rfl, hb⟩
    refine ⟨got_eq ?_ ?_, hb⟩
    · unfold okA
      by_cases hl : bs.length = 6 ∧ numOf ((bs.drop 5).take 1) ≤ 1
      · rw [decide_eq_true hl, Bool.true_and, show gotB 0 _ bs = true from decide_eq_true ⟨rfl, E.2 hl⟩]
        obtain ⟨e1, e2, _⟩ := rd_id (bs := bs) (by omega)
        obtain ⟨e3, e4, _⟩ := rd_key (bs := bs) (by omega)
        rw [← e1, ← e2, ← e3]
        exact hv.symm
      · rw [decide_eq_false hl, Bool.false_and]
        exact decide_eq_false (fun h => hl (E.1 h.2))
    · intro ho
      unfold okA at ho
      rw [Bool.and_eq_true, decide_eq_true_eq] at ho
      exact EQ ho.1
theorem chkT (bs : List UInt8) : Hid (∀ w, Calls Try.prog 14 #[.agg (rec17 3 0 0 0 0 0 0 0 0 0 0 0 (wrap64 (tkN (tkS (bs, true) 1) 1 : Int)) (wrap64 (tkN (tkS (tkS (bs, true) 1) 1) 2 : Int)) (tkyN (tkS (bs, true) 1)) (decide ((tkyU (tkS (bs, true) 1) : Int) = 1)) (wrap64 (tkN (tkyS (tkS (bs, true) 1)) 4 : Int))).toArray] w fun e w' => e = .returned (.int .i64 (if (mayKey (wrap64 (tkN (tkS (bs, true) 1) 1 : Int)) (wrap64 (tkN (tkS (tkS (bs, true) 1) 1) 2 : Int)) (tkyN (tkS (bs, true) 1)) && inB (wrap64 (tkN (tkyS (tkS (bs, true) 1)) 4 : Int)) 0 1073741824) = true then 0 else 4)) ∧ Below w.heap.size w w') :=
  chk_own (ky := 3) (ok17 (by intro z hz; simp only [List.mem_cons, List.not_mem_nil, or_false] at hz; rcases hz with rfl | rfl | rfl | rfl | rfl | rfl | rfl | rfl | rfl | rfl | rfl | rfl | rfl | rfl | rfl | rfl <;> first | exact fits_zero | exact w64_fits _ | decide | (unfold tkyN; exact w64_fits _))) (rec17_ok 3 0 0 0 0 0 0 0 0 0 0 0 (wrap64 (tkN (tkS (bs, true) 1) 1 : Int)) (wrap64 (tkN (tkS (tkS (bs, true) 1) 1) 2 : Int)) (tkyN (tkS (bs, true) 1)) (decide ((tkyU (tkS (bs, true) 1) : Int) = 1)) (wrap64 (tkN (tkyS (tkS (bs, true) 1)) 4 : Int))) rfl (by decide) (Lib.hid fun w => fieldsT_any 0 0 0 0 0 0 0 0 0 0 0 (wrap64 (tkN (tkS (bs, true) 1) 1 : Int)) (wrap64 (tkN (tkS (tkS (bs, true) 1) 1) 2 : Int)) (tkyN (tkS (bs, true) 1)) (decide ((tkyU (tkS (bs, true) 1) : Int) = 1)) (wrap64 (tkN (tkyS (tkS (bs, true) 1)) 4 : Int)) w)
theorem recgetT (a : Option Addr) (n c : Nat) (bs : List UInt8) (w : World) (h : Sl w a n 1 (bcells bs)) (hn : n ≤ 140737488355328) (hk : tkN (bs, true) 1 = 3) :
    Calls Try.prog 6 #[.slice a n c] w fun e w' => e = .returned (.tuple #[.agg (getX (okT bs) (rec17 3 0 0 0 0 0 0 0 0 0 0 0 (fld bs 1 1) (fld bs 2 2) (fld bs 4 1) (decide ((numOf ((bs.drop 5).take 1) : Int) = 1)) (fld bs 6 4))).toArray, .int .i64 (getC (okT bs))]) ∧ Below w.heap.size w w' := by
  have C := chkT bs
  have E := encT hk
  have HV := rec17_ok 3 0 0 0 0 0 0 0 0 0 0 0 (wrap64 (tkN (tkS (bs, true) 1) 1 : Int)) (wrap64 (tkN (tkS (tkS (bs, true) 1) 1) 2 : Int)) (tkyN (tkS (bs, true) 1)) (decide ((tkyU (tkS (bs, true) 1) : Int) = 1)) (wrap64 (tkN (tkyS (tkS (bs, true) 1)) 4 : Int))
  have RD : Hid (∀ g w, RdS w.heap.size w g (bs, true) → Calls Try.prog 16 #[.pointer (some ⟨g, 0, none⟩)] w fun e w' => e = .returned (.agg (rec17 3 0 0 0 0 0 0 0 0 0 0 0 (wrap64 (tkN (tkS (bs, true) 1) 1 : Int)) (wrap64 (tkN (tkS (tkS (bs, true) 1) 1) 2 : Int)) (tkyN (tkS (bs, true) 1)) (decide ((tkyU (tkS (bs, true) 1) : Int) = 1)) (wrap64 (tkN (tkyS (tkS (bs, true) 1)) 4 : Int))).toArray) ∧ w.grownBy w' (some g)) := Lib.hid (fun g w hr => (readT_any hr (Nat.le_refl _) hk).mono fun e w' h => ⟨h.1, h.2.2⟩)
  have EQ : bs.length = 10 ∧ numOf ((bs.drop 5).take 1) ≤ 1 → rec17 3 0 0 0 0 0 0 0 0 0 0 0 (wrap64 (tkN (tkS (bs, true) 1) 1 : Int)) (wrap64 (tkN (tkS (tkS (bs, true) 1) 1) 2 : Int)) (tkyN (tkS (bs, true) 1)) (decide ((tkyU (tkS (bs, true) 1) : Int) = 1)) (wrap64 (tkN (tkyS (tkS (bs, true) 1)) 4 : Int)) = rec17 3 0 0 0 0 0 0 0 0 0 0 0 (fld bs 1 1) (fld bs 2 2) (fld bs 4 1) (decide ((numOf ((bs.drop 5).take 1) : Int) = 1)) (fld bs 6 4) := by
    intro hl
    obtain ⟨e1, e2, _⟩ := rd_id (bs := bs) (by omega)
    obtain ⟨e3, e4, e5⟩ := rd_key (bs := bs) (by omega)
    have e6 := (tk_ok (s := (bs.drop 6, true)) (k := 4) rfl (by show 4 ≤ (bs.drop 6).length; rw [List.length_drop]; omega)).1
    rw [e1, e2, e3, e4, e5, e6]
    rfl
  rcases hv : (mayKey (wrap64 (tkN (tkS (bs, true) 1) 1 : Int)) (wrap64 (tkN (tkS (tkS (bs, true) 1) 1) 2 : Int)) (tkyN (tkS (bs, true) 1)) && inB (wrap64 (tkN (tkyS (tkS (bs, true) 1)) 4 : Int)) 0 1073741824) with _ | _
  · rw [hv, if_neg (by decide)] at C
    refine (rget_of (enc := []) (code := 4) a n c w h hn HV RD (Lib.hid fun w => (rput_no HV (by decide) C w).mono fun e w' h => ⟨none, 0, 0, h.1, ⟨rfl, Or.inl rfl⟩, h.2⟩)).mono ?_
    rintro e w' ⟨rfl, hb⟩
    refine ⟨got_eq ?_ ?_, hb⟩
    · rw [show gotB 4 [] bs = false from decide_eq_false (by rintro ⟨h, _⟩; cases h)]
      unfold okT
      by_cases hl : bs.length = 10 ∧ numOf ((bs.drop 5).take 1) ≤ 1
      · rw [decide_eq_true hl, Bool.true_and]
        obtain ⟨e1, e2, _⟩ := rd_id (bs := bs) (by omega)
        obtain ⟨e3, e4, e5⟩ := rd_key (bs := bs) (by omega)
        have e6 := (tk_ok (s := (bs.drop 6, true)) (k := 4) rfl (by show 4 ≤ (bs.drop 6).length; rw [List.length_drop]; omega)).1
        have e7 : fld bs 6 4 = (wrap64 (tkN (tkyS (tkS (bs, true) 1)) 4 : Int)) := by rw [e5, e6]; rfl
        rw [e7, ← e1, ← e2, ← e3]
        exact hv.symm
      · rw [decide_eq_false hl, Bool.false_and]
    · intro ho
      unfold okT at ho
      rw [Bool.and_eq_true, decide_eq_true_eq] at ho
      exact EQ ho.1
  · rw [hv, if_pos rfl] at C
    refine (rget_of (enc := (3 :: keyOcts (wrap64 (tkN (tkS (bs, true) 1) 1 : Int)) (wrap64 (tkN (tkS (tkS (bs, true) 1) 1) 2 : Int)) (tkyN (tkS (bs, true) 1)) (decide ((tkyU (tkS (bs, true) 1) : Int) = 1))) ++ beOf (u64 (wrap64 (tkN (tkyS (tkS (bs, true) 1)) 4 : Int))) 4) (code := 0) a n c w h hn HV RD (Lib.hid fun w => (rput_T (wrap64 (tkN (tkS (bs, true) 1) 1 : Int)) (wrap64 (tkN (tkS (tkS (bs, true) 1) 1) 2 : Int)) (tkyN (tkS (bs, true) 1)) (decide ((tkyU (tkS (bs, true) 1) : Int) = 1)) (wrap64 (tkN (tkyS (tkS (bs, true) 1)) 4 : Int)) C w).mono fun e w' ⟨a', c', h1, h2, h3⟩ => ⟨a', _, c', h1, h2, h3⟩)).mono ?_
    rintro e w' ⟨rfl, hb⟩
    refine ⟨got_eq ?_ ?_, hb⟩
    · unfold okT
      by_cases hl : bs.length = 10 ∧ numOf ((bs.drop 5).take 1) ≤ 1
      · rw [decide_eq_true hl, Bool.true_and, show gotB 0 _ bs = true from decide_eq_true ⟨rfl, E.2 hl⟩]
        obtain ⟨e1, e2, _⟩ := rd_id (bs := bs) (by omega)
        obtain ⟨e3, e4, e5⟩ := rd_key (bs := bs) (by omega)
        have e6 := (tk_ok (s := (bs.drop 6, true)) (k := 4) rfl (by show 4 ≤ (bs.drop 6).length; rw [List.length_drop]; omega)).1
        have e7 : fld bs 6 4 = (wrap64 (tkN (tkyS (tkS (bs, true) 1)) 4 : Int)) := by rw [e5, e6]; rfl
        rw [e7, ← e1, ← e2, ← e3]
        exact hv.symm
      · rw [decide_eq_false hl, Bool.false_and]
        exact decide_eq_false (fun h => hl (E.1 h.2))
    · intro ho
      unfold okT at ho
      rw [Bool.and_eq_true, decide_eq_true_eq] at ho
      exact EQ ho.1
end Go.Proofs.Ytfffbhkenggdcaa
