/- What vectors know of changes. -/
import Derived.Test.YtalbkpahphndiaaVec
import Derived.Test.YtalbkpahphndiaaRd
import Derived.Test.YtalbkpahphndiaaRow
namespace Go.Proofs.Ytalbkpahphndiaa
set_option linter.unusedVariables false
set_option linter.unusedSimpArgs false
open Go.ChangeShapes Go.WideShapes Go.ChangeAt Go.RowKit
def isRep (r : Int) : Bool := decide (0 ≤ r) && decide (r < 4)
theorem isRep_true {r : Int} (h : isRep r = true) : 0 ≤ r ∧ r < 4 := by simpa [isRep] using h
theorem isRep_yes (i : Nat) (hi : i < 4) : isRep i = true := by simp [isRep]; omega
/-- is an Id known? -/
def known (v : List Int) (r s : Int) : Bool := isRep r && decide (1 ≤ s) && decide (s ≤ v.getD r.toNat 0)
/-- the next Id. -/
def nextR (v : List Int) (r : Int) : Int := if isRep r = true ∧ v.getD r.toNat 0 < 65535 then r else 0
def nextS (v : List Int) (r : Int) : Int := if isRep r = true ∧ v.getD r.toNat 0 < 65535 then v.getD r.toNat 0 + 1 else 0
theorem chg_size : (Try.prog.info? 25).map (·.size) = some 9 := by kernel_rfl
theorem chg_load {d t g o : Nat} {ty : TypeId} {ps : String} {af : Array Edge} {a : Act} {w : World} {ops : Array Oper} {rest : List Oper} {Q : Exit → Act → World → Prop} {x : List Int}
    (hx : a.eval (.tmp t) = .pointer (some ⟨g, o, none⟩)) (hb : w.rangeAt g o (ints x)) (hv : Hid (x.length = 9)) (h : wpList Try.prog ops Q rest (a.put (some d) (.agg (ints x).toArray)) w) :
    wpList Try.prog ops Q (⟨some d, .load 25 (.tmp t), ty, ps, af, none⟩ :: rest) a w :=
  ls_run rfl (run_op_load rfl hx hb Try.underlying25 rfl (by rw [chg_size, ints_len, hv.out])) h
theorem chg_load_g {d t g o i : Nat} {b : Bool} {ty : TypeId} {ps : String} {af : Array Edge} {a : Act} {w : World} {ops : Array Oper} {rest : List Oper} {Q : Exit → Act → World → Prop} {x : List Int}
    (hx : a.eval (.tmp t) = .pointer (some ⟨g, o, none⟩)) (hw : Region.wanted ⟨some d, .load 25 (.tmp t), ty, ps, af, some (i, b)⟩ (yielded ops a.tmps) = true) (hb : w.rangeAt g o (ints x)) (hv : Hid (x.length = 9)) (h : wpList Try.prog ops Q rest (a.put (some d) (.agg (ints x).toArray)) w) :
    wpList Try.prog ops Q (⟨some d, .load 25 (.tmp t), ty, ps, af, some (i, b)⟩ :: rest) a w :=
  ls_run_g hw (run_op_load rfl hx hb Try.underlying25 rfl (by rw [chg_size, ints_len, hv.out])) h
theorem chg_load_st {d t g o : Nat} {gd : Option (Nat × Bool)} {ty : TypeId} {ps : String} {af : Array Edge} {a : Act} {w : World} {ops : Array Oper} {rest : List Oper} {R : Act → Prop} {x : List Int}
    (hx : a.eval (.tmp t) = .pointer (some ⟨g, o, none⟩)) (hw : Region.wanted ⟨some d, .load 25 (.tmp t), ty, ps, af, gd⟩ (yielded ops a.tmps) = true) (hb : w.rangeAt g o (ints x)) (hv : Hid (x.length = 9)) (h : wpStill Try.prog ops w R rest (a.put (some d) (.agg (ints x).toArray))) :
    wpStill Try.prog ops w R (⟨some d, .load 25 (.tmp t), ty, ps, af, gd⟩ :: rest) a :=
  st_run hw (run_op_load rfl hx hb Try.underlying25 rfl (by rw [chg_size, ints_len, hv.out])) h
theorem chg_store {t t' g T : Nat} {ty : TypeId} {ps : String} {af : Array Edge} {a : Act} {w : World} {ops : Array Oper} {rest : List Oper} {Q : Exit → Act → World → Prop} {x : List Int} {old : List Value}
    (hx : a.eval (.tmp t) = .pointer (some ⟨g, 0, none⟩)) (hy : a.eval (.tmp t') = .agg (ints x).toArray) (hb : Blk w g old T) (hl : old.length = 9) (hv : Hid (x.length = 9)) (h : wpList Try.prog ops Q rest (a.put none undef) (w.setCells g 0 (ints x))) :
    wpList Try.prog ops Q (⟨none, .store 25 (.tmp t) (.tmp t'), ty, ps, af, none⟩ :: rest) a w :=
  wpList_store_mid rfl 25 (.tmp t) (.tmp t') rfl g 0 _ hx hy (hb.there 0 _ (by rw [List.size_toArray, ints_len, hv.out, hl]; decide)) (by rw [chg_size, List.size_toArray, ints_len, hv.out]) (all_oneCell_toArray (fun u hu => ints_one hu)) (by rw [List.toList_toArray]; exact h)
theorem chg_store_new {t t' g T : Nat} {ty : TypeId} {ps : String} {af : Array Edge} {a : Act} {w : World} {ops : Array Oper} {rest : List Oper} {Q : Exit → Act → World → Prop} {x : List Int} {old : Array Value}
    (hx : a.eval (.tmp t) = .pointer (some ⟨g, 0, none⟩)) (hg : g = w.heap.size) (hy : a.eval (.tmp t') = .agg (ints x).toArray) (hl : old.size = 9) (hv : Hid (x.length = 9)) (h : wpList Try.prog ops Q rest (a.put none undef) (w.alloc (.cells (ints x).toArray T))) :
    wpList Try.prog ops Q (⟨none, .store 25 (.tmp t) (.tmp t'), ty, ps, af, none⟩ :: rest) a (w.alloc (.cells old T)) := by
  subst hg
  refine chg_store hx hy (Blk.new w old T) (by simpa using hl) hv ?_
  rw [setAll_new w old _ T (by rw [ints_len, hv.out, hl])]
  exact h
/-- the vector of the first k changes. -/
def ofTo (L : List Int) : Nat → List Int
  | 0 => [0, 0, 0, 0]
  | k + 1 => if isRep (L.getD (k * 9) 0) then (ofTo L k).set (L.getD (k * 9) 0).toNat (max ((ofTo L k).getD (L.getD (k * 9) 0).toNat 0) (L.getD (k * 9 + 1) 0)) else ofTo L k
theorem range_keep {w w' : World} {b o B : Nat} {cs : List Value} (h : w.rangeAt b o cs) (hb : Below B w w') (hlt : b < B) : w'.rangeAt b o cs := fun j v hv => (hb.cell (p := ⟨b, o + j, none⟩) hlt).trans (h j v hv)
theorem ofTo_len (L : List Int) : ∀ k, (ofTo L k).length = 4
  | 0 => rfl
  | k + 1 => by
    unfold ofTo
    split
    · rw [List.length_set, ofTo_len L k]
    · exact ofTo_len L k
theorem ofTo_no {L : List Int} {k : Nat} (h : isRep (L.getD (k * 9) 0) = false) : ofTo L (k + 1) = ofTo L k := by
  rw [ofTo, if_neg (by rw [h]; simp)]
theorem ofTo_yes {L : List Int} {k : Nat} (h : isRep (L.getD (k * 9) 0) = true) : ofTo L (k + 1) = (ofTo L k).set (L.getD (k * 9) 0).toNat (max ((ofTo L k).getD (L.getD (k * 9) 0).toNat 0) (L.getD (k * 9 + 1) 0)) := by
  rw [ofTo, if_pos h]
/-- the i-th change's cells. -/
def chAt (L : List Int) (i : Nat) : List Int := (L.drop (i * 9)).take 9
theorem chAt_len {L : List Int} {n i : Nat} (hl : L.length = n * 9) (hi : i < n) : (chAt L i).length = 9 := by
  unfold chAt
  rw [List.length_take, List.length_drop, hl]
  omega
theorem chAt_get {L : List Int} {i k : Nat} (hk : k < 9) : (chAt L i).getD k 0 = L.getD (i * 9 + k) 0 := by
  unfold chAt
  rw [List.getD_eq_getElem?_getD, List.getElem?_take_of_lt hk, List.getElem?_drop, List.getD_eq_getElem?_getD]
theorem chAt_at {w : World} {a : Option Addr} {n i : Nat} {L : List Int} (hs : Sl w a n 9 (ints L)) (hi : i < n) : ∃ b off, a = some ⟨b, off, none⟩ ∧ b < w.heap.size ∧ w.rangeAt b (off + i * 9) (ints (chAt L i)) := by
  rcases hs.2 with h | ⟨b, off, ha, hb, hc⟩
  · omega
  · refine ⟨b, off, ha, hb, fun j v hv => ?_⟩
    have hl : L.length = n * 9 := by have := hs.1; rwa [ints_len] at this
    have hj : j < 9 := by
      have := (List.getElem?_eq_some_iff.1 hv).1
      rwa [ints_len, chAt_len hl hi] at this
    rw [ints_get _ _ (by rw [chAt_len hl hi]; exact hj), chAt_get hj] at hv
    have hle : i * 9 + j < n * 9 := by omega
    rw [Nat.add_assoc, hc (i * 9 + j) hle, List.getD_eq_getElem?_getD, ints_get _ _ (by omega)]
    exact hv
end Go.Proofs.Ytalbkpahphndiaa
