/- What vectors know of changes. -/
import Derived.Test.YtcfipimhpeblbaaVec
import Derived.Test.YtcfipimhpeblbaaRd
import Derived.Test.YtcfipimhpeblbaaRow
namespace Go.Proofs.Ytcfipimhpeblbaa
set_option linter.unusedVariables false
set_option linter.unusedSimpArgs false
open Go.ChangeShapes Go.WideShapes Go.ChangeAt Go.RowKit
def isRep (r : Int) : Bool := decide (0 ≤ r) && decide (r < 4)
theorem isRep_any (r : Int) (w : World) : Calls Try.prog 32 #[.int .i64 r] w fun e w' => e = .returned (.bool (isRep r)) ∧ w' = w := by
  go_enter Try.func32, Try.ntmps32
  by_cases h0 : 0 ≤ r
  · by_cases h4 : r < 4
    · go_wp2_with fail
      go_ret
      exact ⟨by unfold isRep; rw [decide_eq_true h0, decide_eq_true h4]; rfl, rfl⟩
    · go_wp2_with fail
      go_ret
      exact ⟨by unfold isRep; rw [decide_eq_true h0, decide_eq_false (by omega)]; rfl, rfl⟩
  · go_wp2_with fail
    go_ret
    exact ⟨by unfold isRep; rw [decide_eq_false (by omega)]; rfl, rfl⟩
theorem isRep_true {r : Int} (h : isRep r = true) : 0 ≤ r ∧ r < 4 := by simpa [isRep] using h
theorem isRep_yes (i : Nat) (hi : i < 4) : isRep i = true := by simp [isRep]; omega
theorem isRep_is {r : Int} {b : Bool} (h : isRep r = b) (w : World) : Calls Try.prog 32 #[.int .i64 r] w fun e w' => e = .returned (.bool b) ∧ w' = w := by
  have := isRep_any r w
  rwa [h] at this
/-- is an Id known? -/
def known (v : List Int) (r s : Int) : Bool := isRep r && decide (1 ≤ s) && decide (s ≤ v.getD r.toNat 0)
/-- the next Id. -/
def nextR (v : List Int) (r : Int) : Int := if isRep r = true ∧ v.getD r.toNat 0 < 65535 then r else 0
def nextS (v : List Int) (r : Int) : Int := if isRep r = true ∧ v.getD r.toNat 0 < 65535 then v.getD r.toNat 0 + 1 else 0
set_option maxHeartbeats 1000000 in
theorem next_any (v : List Int) (r : Int) (w : World) (hv : Hid (v.length = 4)) (hf : ∀ k, fits (v.getD k 0) = true) :
    Calls Try.prog 21 #[.agg (ints v).toArray, .int .i64 r] w fun e w' => e = .returned (.agg #[.int .i64 (nextR v r), .int .i64 (nextS v r)]) ∧ Below w.heap.size w w' := by
  have A1 := (Blk.new w (ints v).toArray 32).alloc (.cells #[.int .i64 0, .int .i64 0] 34)
  rw [List.toList_toArray] at A1
  have C1 := Blk.new (w.alloc (.cells (ints v).toArray 32)) #[.int .i64 0, .int .i64 0] 34
  rw [show (w.alloc (.cells (ints v).toArray 32)).heap.size = w.heap.size + 1 by simp] at C1
  have hb1 := Lib.hid ((((Below.refl w.heap.size w).alloc (Nat.le_refl _) (.cells (ints v).toArray 32)).alloc (by simp) (.cells #[.int .i64 0, .int .i64 0] 34)))
  go_enter Try.func21, Try.ntmps21
  go_upto_region 1 with fail
  generalize (w.alloc (.cells (ints v).toArray 32)).alloc (.cells #[.int .i64 0, .int .i64 0] 34) = W at *
  have d0 := C1.cell 0
  have d1 := C1.cell 1
  have f0 := C1.froz 0
  have f1 := C1.froz 1
  rw [List.getElem?_cons_zero] at d0
  rw [List.getElem?_cons_succ, List.getElem?_cons_zero] at d1
  rcases hb : isRep r with _ | _
  · have C := Lib.hid (fun w => isRep_is hb w)
    have E1 := Lib.hid (show nextR v r = 0 by unfold nextR; rw [if_neg (by rw [hb]; simp)])
    have E2 := Lib.hid (show nextS v r = 0 by unfold nextS; rw [if_neg (by rw [hb]; simp)])
    skip
    clear hb
    go_wp2_with (go_at_call 32; refine (C.out _).mono ?_; rintro e w' ⟨rfl, rfl⟩)
    exact ret_cell (p := 4) rfl rfl ((C1.set 0 (.int .i64 0)).set 1 (.int .i64 0)) Try.underlying34 rfl (by kernel_rfl) rfl ⟨by rw [E1.out, E2.out]; rfl, below_set (below_set hb1.out (Nat.le_add_right _ 1) 0 _) (Nat.le_add_right _ 1) 1 _⟩
  · have C := Lib.hid (fun w => isRep_is hb w)
    obtain ⟨h0, h4⟩ := isRep_true hb
    obtain ⟨i, rfl⟩ : ∃ i : Nat, r = i := ⟨r.toNat, by omega⟩
    have hi : i < 4 := by omega
    have c1 := A1.vcell hv hi
    have hfi := hf i
    obtain ⟨x, hx⟩ : ∃ x, v.getD i 0 = x := ⟨_, rfl⟩
    rw [hx] at c1 hfi
    obtain ⟨hxl, hxu⟩ := (fits_iff x).1 hfi
    by_cases h1 : x < 65535
    · have E1 := Lib.hid (show nextR v i = i by unfold nextR; rw [Int.toNat_natCast, hx, if_pos ⟨hb, h1⟩])
      have E2 := Lib.hid (show nextS v i = x + 1 by unfold nextS; rw [Int.toNat_natCast, hx, if_pos ⟨hb, h1⟩])
      skip
      clear hb hx hfi
      go_wp2_with (go_at_call 32; refine (C.out _).mono ?_; rintro e w' ⟨rfl, rfl⟩)
      exact ret_cell (p := 4) rfl rfl ((C1.set 0 (.int .i64 i)).set 1 (.int .i64 (x + 1))) Try.underlying34 rfl (by kernel_rfl) rfl ⟨by rw [E1.out, E2.out]; rfl, below_set (below_set hb1.out (Nat.le_add_right _ 1) 0 _) (Nat.le_add_right _ 1) 1 _⟩
    · have E1 := Lib.hid (show nextR v i = 0 by unfold nextR; rw [Int.toNat_natCast, hx, if_neg (by omega)])
      have E2 := Lib.hid (show nextS v i = 0 by unfold nextS; rw [Int.toNat_natCast, hx, if_neg (by omega)])
      skip
      clear hb hx hfi
      go_wp2_with (go_at_call 32; refine (C.out _).mono ?_; rintro e w' ⟨rfl, rfl⟩)
      exact ret_cell (p := 4) rfl rfl ((C1.set 0 (.int .i64 0)).set 1 (.int .i64 0)) Try.underlying34 rfl (by kernel_rfl) rfl ⟨by rw [E1.out, E2.out]; rfl, below_set (below_set hb1.out (Nat.le_add_right _ 1) 0 _) (Nat.le_add_right _ 1) 1 _⟩
theorem chg_size : (Try.prog.info? 36).map (·.size) = some 9 := by kernel_rfl
theorem chg_load {d t g o : Nat} {ty : TypeId} {ps : String} {af : Array Edge} {a : Act} {w : World} {ops : Array Oper} {rest : List Oper} {Q : Exit → Act → World → Prop} {x : List Int}
    (hx : a.eval (.tmp t) = .pointer (some ⟨g, o, none⟩)) (hb : w.rangeAt g o (ints x)) (hv : Hid (x.length = 9)) (h : wpList Try.prog ops Q rest (a.put (some d) (.agg (ints x).toArray)) w) :
    wpList Try.prog ops Q (⟨some d, .load 36 (.tmp t), ty, ps, af, none⟩ :: rest) a w :=
  ls_run rfl (run_op_load rfl hx hb Try.underlying36 rfl (by rw [chg_size, ints_len, hv.out])) h
theorem chg_load_g {d t g o i : Nat} {b : Bool} {ty : TypeId} {ps : String} {af : Array Edge} {a : Act} {w : World} {ops : Array Oper} {rest : List Oper} {Q : Exit → Act → World → Prop} {x : List Int}
    (hx : a.eval (.tmp t) = .pointer (some ⟨g, o, none⟩)) (hw : Region.wanted ⟨some d, .load 36 (.tmp t), ty, ps, af, some (i, b)⟩ (yielded ops a.tmps) = true) (hb : w.rangeAt g o (ints x)) (hv : Hid (x.length = 9)) (h : wpList Try.prog ops Q rest (a.put (some d) (.agg (ints x).toArray)) w) :
    wpList Try.prog ops Q (⟨some d, .load 36 (.tmp t), ty, ps, af, some (i, b)⟩ :: rest) a w :=
  ls_run_g hw (run_op_load rfl hx hb Try.underlying36 rfl (by rw [chg_size, ints_len, hv.out])) h
theorem chg_load_st {d t g o : Nat} {gd : Option (Nat × Bool)} {ty : TypeId} {ps : String} {af : Array Edge} {a : Act} {w : World} {ops : Array Oper} {rest : List Oper} {R : Act → Prop} {x : List Int}
    (hx : a.eval (.tmp t) = .pointer (some ⟨g, o, none⟩)) (hw : Region.wanted ⟨some d, .load 36 (.tmp t), ty, ps, af, gd⟩ (yielded ops a.tmps) = true) (hb : w.rangeAt g o (ints x)) (hv : Hid (x.length = 9)) (h : wpStill Try.prog ops w R rest (a.put (some d) (.agg (ints x).toArray))) :
    wpStill Try.prog ops w R (⟨some d, .load 36 (.tmp t), ty, ps, af, gd⟩ :: rest) a :=
  st_run hw (run_op_load rfl hx hb Try.underlying36 rfl (by rw [chg_size, ints_len, hv.out])) h
theorem chg_store {t t' g T : Nat} {ty : TypeId} {ps : String} {af : Array Edge} {a : Act} {w : World} {ops : Array Oper} {rest : List Oper} {Q : Exit → Act → World → Prop} {x : List Int} {old : List Value}
    (hx : a.eval (.tmp t) = .pointer (some ⟨g, 0, none⟩)) (hy : a.eval (.tmp t') = .agg (ints x).toArray) (hb : Blk w g old T) (hl : old.length = 9) (hv : Hid (x.length = 9)) (h : wpList Try.prog ops Q rest (a.put none undef) (w.setCells g 0 (ints x))) :
    wpList Try.prog ops Q (⟨none, .store 36 (.tmp t) (.tmp t'), ty, ps, af, none⟩ :: rest) a w :=
  wpList_store_mid rfl 36 (.tmp t) (.tmp t') rfl g 0 _ hx hy (hb.there 0 _ (by rw [List.size_toArray, ints_len, hv.out, hl]; decide)) (by rw [chg_size, List.size_toArray, ints_len, hv.out]) (all_oneCell_toArray (fun u hu => ints_one hu)) (by rw [List.toList_toArray]; exact h)
theorem chg_store_new {t t' g T : Nat} {ty : TypeId} {ps : String} {af : Array Edge} {a : Act} {w : World} {ops : Array Oper} {rest : List Oper} {Q : Exit → Act → World → Prop} {x : List Int} {old : Array Value}
    (hx : a.eval (.tmp t) = .pointer (some ⟨g, 0, none⟩)) (hg : g = w.heap.size) (hy : a.eval (.tmp t') = .agg (ints x).toArray) (hl : old.size = 9) (hv : Hid (x.length = 9)) (h : wpList Try.prog ops Q rest (a.put none undef) (w.alloc (.cells (ints x).toArray T))) :
    wpList Try.prog ops Q (⟨none, .store 36 (.tmp t) (.tmp t'), ty, ps, af, none⟩ :: rest) a (w.alloc (.cells old T)) := by
  subst hg
  refine chg_store hx hy (Blk.new w old T) (by simpa using hl) hv ?_
  rw [setAll_new w old _ T (by rw [ints_len, hv.out, hl])]
  exact h
/-- the vector of the first k changes. -/
def ofTo (L : List Int) : Nat → List Int
  | 0 => [0, 0, 0, 0]
  | k + 1 => if isRep (L.getD (k * 9) 0) then (ofTo L k).set (L.getD (k * 9) 0).toNat (max ((ofTo L k).getD (L.getD (k * 9) 0).toNat 0) (L.getD (k * 9 + 1) 0)) else ofTo L k
theorem range_keep {w w' : World} {b o B : Nat} {cs : List Value} (h : w.rangeAt b o cs) (hb : Below B w w') (hlt : b < B) : w'.rangeAt b o cs := fun j v hv => (hb.cell (p := ⟨b, o + j, none⟩) hlt).trans (h j v hv)
theorem ofTo_len (L : List Int) : ∀ k, (ofTo L k).length = 4
  | 0 => rfl
  | k + 1 => by
    unfold ofTo
    split
    · rw [List.length_set, ofTo_len L k]
    · exact ofTo_len L k
theorem ofTo_no {L : List Int} {k : Nat} (h : isRep (L.getD (k * 9) 0) = false) : ofTo L (k + 1) = ofTo L k := by
  rw [ofTo, if_neg (by rw [h]; simp)]
theorem ofTo_yes {L : List Int} {k : Nat} (h : isRep (L.getD (k * 9) 0) = true) : ofTo L (k + 1) = (ofTo L k).set (L.getD (k * 9) 0).toNat (max ((ofTo L k).getD (L.getD (k * 9) 0).toNat 0) (L.getD (k * 9 + 1) 0)) := by
  rw [ofTo, if_pos h]
/-- the i-th change's cells. -/
def chAt (L : List Int) (i : Nat) : List Int := (L.drop (i * 9)).take 9
theorem chAt_len {L : List Int} {n i : Nat} (hl : L.length = n * 9) (hi : i < n) : (chAt L i).length = 9 := by
  unfold chAt
  rw [List.length_take, List.length_drop, hl]
  omega
theorem chAt_get {L : List Int} {i k : Nat} (hk : k < 9) : (chAt L i).getD k 0 = L.getD (i * 9 + k) 0 := by
  unfold chAt
  rw [List.getD_eq_getElem?_getD, List.getElem?_take_of_lt hk, List.getElem?_drop, List.getD_eq_getElem?_getD]
theorem chAt_at {w : World} {a : Option Addr} {n i : Nat} {L : List Int} (hs : Sl w a n 9 (ints L)) (hi : i < n) : ∃ b off, a = some ⟨b, off, none⟩ ∧ b < w.heap.size ∧ w.rangeAt b (off + i * 9) (ints (chAt L i)) := by
  rcases hs.2 with h | ⟨b, off, ha, hb, hc⟩
  · omega
  · refine ⟨b, off, ha, hb, fun j v hv => ?_⟩
    have hl : L.length = n * 9 := by have := hs.1; rwa [ints_len] at this
    have hj : j < 9 := by
      have := (List.getElem?_eq_some_iff.1 hv).1
      rwa [ints_len, chAt_len hl hi] at this
    rw [ints_get _ _ (by rw [chAt_len hl hi]; exact hj), chAt_get hj] at hv
    have hle : i * 9 + j < n * 9 := by omega
    rw [Nat.add_assoc, hc (i * 9 + j) hle, List.getD_eq_getElem?_getD, ints_get _ _ (by omega)]
    exact hv
end Go.Proofs.Ytcfipimhpeblbaa
