/- A reader as a list of octets and a flag; an Id read off it. -/
import Derived.Test.YtfffbhkenggdcaaRec4
import Derived.Test.YtfffbhkenggdcaaRead
import Derived.Test.YtfffbhkenggdcaaRow
import Derived.Test.YtfffbhkenggdcaaOps
import Derived.Test.YtfffbhkenggdcaaEq
import Derived.Test.YtfffbhkenggdcaaChgOps
import Derived.RegionTactic
import Derived.BigRegion
import Derived.ChangeAlike
namespace Go.Proofs.Ytfffbhkenggdcaa
set_option linter.unusedVariables false
set_option linter.unusedSimpArgs false
open Go.ChangeShapes Go.WideShapes Go.ChangeAt Go.RowKit
theorem id_size : (Try.prog.info? 25).map (·.size) = some 2 := by kernel_rfl
theorem id_load {d t g o : Nat} {ty : TypeId} {ps : String} {af : Array Edge} {a : Act} {w : World} {ops : Array Oper} {rest : List Oper} {Q : Exit → Act → World → Prop} {x : List Int}
    (hx : a.eval (.tmp t) = .pointer (some ⟨g, o, none⟩)) (hb : w.rangeAt g o (ints x)) (hv : Hid (x.length = 2)) (h : wpList Try.prog ops Q rest (a.put (some d) (.agg (ints x).toArray)) w) :
    wpList Try.prog ops Q (⟨some d, .load 25 (.tmp t), ty, ps, af, none⟩ :: rest) a w :=
  ls_run rfl (run_op_load rfl hx hb Try.underlying25 rfl (by rw [id_size, ints_len, hv.out])) h
theorem id_load_g {d t g o i : Nat} {b : Bool} {ty : TypeId} {ps : String} {af : Array Edge} {a : Act} {w : World} {ops : Array Oper} {rest : List Oper} {Q : Exit → Act → World → Prop} {x : List Int}
    (hx : a.eval (.tmp t) = .pointer (some ⟨g, o, none⟩)) (hw : Region.wanted ⟨some d, .load 25 (.tmp t), ty, ps, af, some (i, b)⟩ (yielded ops a.tmps) = true) (hb : w.rangeAt g o (ints x)) (hv : Hid (x.length = 2)) (h : wpList Try.prog ops Q rest (a.put (some d) (.agg (ints x).toArray)) w) :
    wpList Try.prog ops Q (⟨some d, .load 25 (.tmp t), ty, ps, af, some (i, b)⟩ :: rest) a w :=
  ls_run_g hw (run_op_load rfl hx hb Try.underlying25 rfl (by rw [id_size, ints_len, hv.out])) h
theorem id_load_st {d t g o : Nat} {gd : Option (Nat × Bool)} {ty : TypeId} {ps : String} {af : Array Edge} {a : Act} {w : World} {ops : Array Oper} {rest : List Oper} {R : Act → Prop} {x : List Int}
    (hx : a.eval (.tmp t) = .pointer (some ⟨g, o, none⟩)) (hw : Region.wanted ⟨some d, .load 25 (.tmp t), ty, ps, af, gd⟩ (yielded ops a.tmps) = true) (hb : w.rangeAt g o (ints x)) (hv : Hid (x.length = 2)) (h : wpStill Try.prog ops w R rest (a.put (some d) (.agg (ints x).toArray))) :
    wpStill Try.prog ops w R (⟨some d, .load 25 (.tmp t), ty, ps, af, gd⟩ :: rest) a :=
  st_run hw (run_op_load rfl hx hb Try.underlying25 rfl (by rw [id_size, ints_len, hv.out])) h
theorem id_store {t t' g T : Nat} {ty : TypeId} {ps : String} {af : Array Edge} {a : Act} {w : World} {ops : Array Oper} {rest : List Oper} {Q : Exit → Act → World → Prop} {x : List Int} {old : List Value}
    (hx : a.eval (.tmp t) = .pointer (some ⟨g, 0, none⟩)) (hy : a.eval (.tmp t') = .agg (ints x).toArray) (hb : Blk w g old T) (hl : old.length = 2) (hv : Hid (x.length = 2)) (h : wpList Try.prog ops Q rest (a.put none undef) (w.setCells g 0 (ints x))) :
    wpList Try.prog ops Q (⟨none, .store 25 (.tmp t) (.tmp t'), ty, ps, af, none⟩ :: rest) a w :=
  wpList_store_mid rfl 25 (.tmp t) (.tmp t') rfl g 0 _ hx hy (hb.there 0 _ (by rw [List.size_toArray, ints_len, hv.out, hl]; decide)) (by rw [id_size, List.size_toArray, ints_len, hv.out]) (all_oneCell_toArray (fun u hu => ints_one hu)) (by rw [List.toList_toArray]; exact h)
theorem id_store_new {t t' g T : Nat} {ty : TypeId} {ps : String} {af : Array Edge} {a : Act} {w : World} {ops : Array Oper} {rest : List Oper} {Q : Exit → Act → World → Prop} {x : List Int} {old : Array Value}
    (hx : a.eval (.tmp t) = .pointer (some ⟨g, 0, none⟩)) (hg : g = w.heap.size) (hy : a.eval (.tmp t') = .agg (ints x).toArray) (hl : old.size = 2) (hv : Hid (x.length = 2)) (h : wpList Try.prog ops Q rest (a.put none undef) (w.alloc (.cells (ints x).toArray T))) :
    wpList Try.prog ops Q (⟨none, .store 25 (.tmp t) (.tmp t'), ty, ps, af, none⟩ :: rest) a (w.alloc (.cells old T)) := by
  subst hg
  refine id_store hx hy (Blk.new w old T) (by simpa using hl) hv ?_
  rw [setAll_new w old _ T (by rw [ints_len, hv.out, hl])]
  exact h
/-- a reader's state: what it has left, and whether it never failed. -/
def RdS (B : Nat) (w : World) (g : Nat) (s : List UInt8 × Bool) : Prop := ∃ a c, Rdr w g (.slice a s.1.length c) s.2 ∧ Sl w a s.1.length 1 (bcells s.1) ∧ s.1.length ≤ c ∧ c ≤ 9223372036854775807 ∧ g < B ∧ ∀ x, a = some x → x.block < B
def tkB (s : List UInt8 × Bool) (k : Nat) : Bool := decide (s.2 = true ∧ k ≤ s.1.length)
def tkN (s : List UInt8 × Bool) (k : Nat) : Nat := if tkB s k = true then numOf (s.1.take k) else 0
def tkS (s : List UInt8 × Bool) (k : Nat) : List UInt8 × Bool := if tkB s k = true then (s.1.drop k, true) else ([], false)
theorem restOf_block {a : Option Addr} {c k B : Nat} (h : ∀ x, a = some x → x.block < B) : ∀ x, restOf a c k = some x → x.block < B := by
  intro x hx
  unfold restOf at hx
  split at hx
  · exact h x hx
  · cases a with
    | none => cases hx
    | some y =>
      simp only [Option.map_some, Option.some.injEq] at hx
      subst hx
      obtain ⟨yb, yo, ys⟩ := y
      have := h _ rfl
      unfold Addr.add; split <;> exact this
theorem rds_take {B g k : Nat} {s : List UInt8 × Bool} {w : World} (h : RdS B w g s) (hk1 : 1 ≤ k) (hk8 : k ≤ 8) (z : Int) (hz : z = k) :
    Calls Try.prog 27 #[.pointer (some ⟨g, 0, none⟩), .int .i64 z] w fun e w' => e = .returned (.tuple #[.int .u64 (tkN s k), .bool (tkB s k)]) ∧ RdS B w' g (tkS s k) ∧ w.grownBy w' (some g) := by
  subst hz
  obtain ⟨bs, f⟩ := s
  obtain ⟨a, c, h1, h2, h3, h4, hgB, hlo⟩ := h
  by_cases hc : f = true ∧ k ≤ bs.length
  · obtain ⟨rfl, hk⟩ := hc
    have eB : tkB (bs, true) k = true := decide_eq_true ⟨rfl, hk⟩
    refine (take_ok g bs.length c k a bs w h1 h2 hk1 hk8 hk h3 h4).mono ?_
    rintro e w' ⟨rfl, h5, h6, h7⟩
    unfold tkN tkS
    rw [eB, if_pos rfl, if_pos rfl]
    refine ⟨rfl, ⟨restOf a c k, c - k, ?_, ?_, ?_, by omega, hgB, restOf_block hlo⟩, h6⟩
    · show Rdr w' g (.slice _ (bs.drop k).length _) true
      rw [List.length_drop]; exact h5
    · show Sl w' _ (bs.drop k).length 1 _
      rw [List.length_drop]; exact h2.cut_rest h1 hk h3 h6
    · show (bs.drop k).length ≤ _
      have h3' : bs.length ≤ c := h3
      rw [List.length_drop]; omega
  · have eB : tkB (bs, f) k = false := decide_eq_false hc
    refine (take_no g bs.length c k f a w h1 (by omega) (by omega) (by cases f; exact Or.inl rfl; exact Or.inr (by have : ¬ k ≤ bs.length := fun hk => hc ⟨rfl, hk⟩; omega)) (Nat.le_trans h3 h4)).mono ?_
    rintro e w' ⟨rfl, h5, h6, h7⟩
    unfold tkN tkS
    rw [eB, if_neg (by decide), if_neg (by decide)]
    exact ⟨rfl, ⟨none, 0, h5, ⟨rfl, Or.inl rfl⟩, Nat.le_refl _, by decide, hgB, fun x hx => by cases hx⟩, h6⟩
theorem RdS.keep {B g : Nat} {s : List UInt8 × Bool} {w w' : World} (h : RdS B w g s) (hb : Below w.heap.size w w') : RdS B w' g s := by
  obtain ⟨a, c, h1, h2, h3, h4, hgB, hlo⟩ := h
  refine ⟨a, c, ?_, h2.keep hb, h3, h4, hgB, hlo⟩
  unfold Rdr; rw [hb.block g h1.lt]; exact h1
theorem RdS.set {B g gc j : Nat} {s : List UInt8 × Bool} {w : World} (h : RdS B w g s) (hc : B ≤ gc) (v : Value) : RdS B (w.setCell ⟨gc, j, none⟩ v) g s := by
  obtain ⟨a, c, h1, h2, h3, h4, hgB, hlo⟩ := h
  refine ⟨a, c, ?_, h2.set_far hlo hc v, h3, h4, hgB, hlo⟩
  unfold Rdr; rw [heap_setCell_other _ _ _ _ (by show g ≠ gc; omega)]; exact h1
theorem RdS.sets {B g gc : Nat} {s : List UInt8 × Bool} (hc : B ≤ gc) (vs : List Value) : ∀ (o : Nat) (w : World), RdS B w g s → RdS B (w.setCells gc o vs) g s := by
  induction vs with
  | nil => intro o w h; exact h
  | cons v r ih => intro o w h; exact ih (o + 1) _ (h.set hc v)
theorem grown_sets {w : World} {row : Option Nat} {gc : Nat} (hc : w.heap.size ≤ gc) (vs : List Value) : ∀ (o : Nat) (w' : World), w.grownBy w' row → w.grownBy (w'.setCells gc o vs) row := by
  induction vs with
  | nil => intro o w' h; exact h
  | cons v r ih =>
    intro o w' h
    refine ih (o + 1) _ ⟨h.os, h.tape, h.output, by rw [size_set]; exact h.size, fun k hk hn => ?_⟩
    rw [heap_setCell_other _ _ _ _ (by show k ≠ gc; omega)]
    exact h.block k hk hn
theorem id_store2 {t t' g T : Nat} {ty : TypeId} {ps : String} {af : Array Edge} {a : Act} {w : World} {ops : Array Oper} {rest : List Oper} {Q : Exit → Act → World → Prop} {x y : Int} {old : List Value}
    (hx : a.eval (.tmp t) = .pointer (some ⟨g, 0, none⟩)) (hy : a.eval (.tmp t') = .agg #[.int .i64 x, .int .i64 y]) (hb : Blk w g old T) (hl : old.length = 2) (h : wpList Try.prog ops Q rest (a.put none undef) (w.setCells g 0 (ints [x, y]))) :
    wpList Try.prog ops Q (⟨none, .store 25 (.tmp t) (.tmp t'), ty, ps, af, none⟩ :: rest) a w :=
  id_store (x := [x, y]) hx hy hb hl (Lib.hid rfl) h
/-- an Id as it is read. -/
def tidL (s : List UInt8 × Bool) : List Int := [wrap64 (tkN s 1 : Int), wrap64 (tkN (tkS s 1) 2 : Int)]
set_option maxRecDepth 100000 in
set_option maxHeartbeats 4000000 in
theorem takeid_any {B g : Nat} {s : List UInt8 × Bool} {w : World} (h : RdS B w g s) (hB : B ≤ w.heap.size) :
    Calls Try.prog 31 #[.pointer (some ⟨g, 0, none⟩)] w fun e w' => e = .returned (.agg (ints (tidL s)).toArray) ∧ RdS B w' g (tkS (tkS s 1) 2) ∧ w.grownBy w' (some g) := by
  have hgB : g < B := by obtain ⟨_, _, _, _, _, _, hh, _⟩ := h; exact hh
  have HR := Lib.hid (h.keep ((Below.refl w.heap.size w).alloc (Nat.le_refl _) (.cells #[.int .i64 0, .int .i64 0] 25)))
  have HG := Lib.hid (grown_of ((Below.refl w.heap.size w).alloc (Nat.le_refl _) (.cells #[.int .i64 0, .int .i64 0] 25)) (some g))
  have HC := Lib.hid (Blk.new w #[.int .i64 0, .int .i64 0] 25)
  clear h
  go_enter Try.func31, Try.ntmps31
  go_upto_region 1 with fail
  generalize w.alloc (.cells #[.int .i64 0, .int .i64 0] 25) = W at *
  go_wp2_with fail
  refine (rds_take HR.out (k := 1) (by decide) (by decide) 1 rfl).mono ?_
  rintro e w2 ⟨rfl, hr2, hg2⟩
  have HR2 := Lib.hid hr2
  have HG2 := Lib.hid (HG.out.trans hg2)
  have HC2 := Lib.hid (HC.out.grown hg2 (by omega))
  clear hr2 hg2 HR HG HC
  generalize hn1 : tkN s 1 = n1 at *
  generalize tkB s 1 = b1 at *
  go_wp2_with fail
  refine (rds_take HR2.out (k := 2) (by decide) (by decide) 2 rfl).mono ?_
  rintro e w3 ⟨rfl, hr3, hg3⟩
  have HR3 := Lib.hid hr3
  have HG3 := Lib.hid (HG2.out.trans hg3)
  have HC3 := Lib.hid (HC2.out.grown hg3 (by omega))
  clear hr3 hg3 HR2 HG2 HC2
  generalize hn2 : tkN (tkS s 1) 2 = n2 at *
  generalize tkB (tkS s 1) 2 = b2 at *
  have HN := Lib.hid (show tidL s = [wrap64 (n1 : Int), wrap64 (n2 : Int)] by unfold tidL; rw [hn1, hn2])
  clear hn1 hn2
  have h2 : Hid (([wrap64 (n1 : Int), wrap64 (n2 : Int)] : List Int).length = 2) := Lib.hid rfl
  have C5 := Lib.hid (HC3.out.setAll (ints [wrap64 (n1 : Int), wrap64 (n2 : Int)]) (by simp [ints_len]))
  have R5 := Lib.hid (RdS.sets (gc := w.heap.size) hB (ints [wrap64 (n1 : Int), wrap64 (n2 : Int)]) 0 _ HR3.out)
  have G5 := Lib.hid (grown_sets (Nat.le_refl _) (ints [wrap64 (n1 : Int), wrap64 (n2 : Int)]) 0 _ HG3.out)
  go_wp2_with (first
    | ((with_reducible apply id_store2); (· rfl); (· rfl); (· exact HC3.out); (· rfl); (simp only [Act.put, List.setIfInBounds_toArray, List.set_cons_zero, List.set_cons_succ]); (generalize w3.setCells w.heap.size 0 (ints [wrap64 (n1 : Int), wrap64 (n2 : Int)]) = WW at *)))
  refine ret_cell (p := 2) rfl rfl C5.out Try.underlying25 rfl (by rw [id_size]; rfl) rfl ⟨by rw [HN.out], R5.out, G5.out⟩
end Go.Proofs.Ytfffbhkenggdcaa
