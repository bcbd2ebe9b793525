/- An effect's five cells, loaded and stored whole; numbers read by effect's closure. -/
import Derived.Test.YteebmpbplenikaaDoorEff
import Derived.Test.YteebmpbplenikaaDoorChg5
import Derived.Test.YteebmpbplenikaaDoorRow
import Derived.Test.YteebmpbplenikaaDoorOps
import Derived.RegionTactic
import Derived.BigRegion
import Derived.ChangeAlike
namespace Go.Proofs.YteebmpbplenikaaDoor
set_option linter.unusedVariables false
set_option linter.unusedSimpArgs false
open Go.ChangeShapes Go.WideShapes Go.ChangeAt Go.RowKit
theorem ef_size : (Tryd.prog.info? 25).map (·.size) = some 5 := by kernel_rfl
theorem ef_load {d t g o : Nat} {ty : TypeId} {ps : String} {af : Array Edge} {a : Act} {w : World} {ops : Array Oper} {rest : List Oper} {Q : Exit → Act → World → Prop} {x : List Int}
    (hx : a.eval (.tmp t) = .pointer (some ⟨g, o, none⟩)) (hb : w.rangeAt g o (ints x)) (hv : Hid (x.length = 5)) (h : wpList Tryd.prog ops Q rest (a.put (some d) (.agg (ints x).toArray)) w) :
    wpList Tryd.prog ops Q (⟨some d, .load 25 (.tmp t), ty, ps, af, none⟩ :: rest) a w :=
  ls_run rfl (run_op_load rfl hx hb Tryd.underlying25 rfl (by rw [ef_size, ints_len, hv.out])) h
theorem ef_load_g {d t g o i : Nat} {b : Bool} {ty : TypeId} {ps : String} {af : Array Edge} {a : Act} {w : World} {ops : Array Oper} {rest : List Oper} {Q : Exit → Act → World → Prop} {x : List Int}
    (hx : a.eval (.tmp t) = .pointer (some ⟨g, o, none⟩)) (hw : Region.wanted ⟨some d, .load 25 (.tmp t), ty, ps, af, some (i, b)⟩ (yielded ops a.tmps) = true) (hb : w.rangeAt g o (ints x)) (hv : Hid (x.length = 5)) (h : wpList Tryd.prog ops Q rest (a.put (some d) (.agg (ints x).toArray)) w) :
    wpList Tryd.prog ops Q (⟨some d, .load 25 (.tmp t), ty, ps, af, some (i, b)⟩ :: rest) a w :=
  ls_run_g hw (run_op_load rfl hx hb Tryd.underlying25 rfl (by rw [ef_size, ints_len, hv.out])) h
theorem ef_load_st {d t g o : Nat} {gd : Option (Nat × Bool)} {ty : TypeId} {ps : String} {af : Array Edge} {a : Act} {w : World} {ops : Array Oper} {rest : List Oper} {R : Act → Prop} {x : List Int}
    (hx : a.eval (.tmp t) = .pointer (some ⟨g, o, none⟩)) (hw : Region.wanted ⟨some d, .load 25 (.tmp t), ty, ps, af, gd⟩ (yielded ops a.tmps) = true) (hb : w.rangeAt g o (ints x)) (hv : Hid (x.length = 5)) (h : wpStill Tryd.prog ops w R rest (a.put (some d) (.agg (ints x).toArray))) :
    wpStill Tryd.prog ops w R (⟨some d, .load 25 (.tmp t), ty, ps, af, gd⟩ :: rest) a :=
  st_run hw (run_op_load rfl hx hb Tryd.underlying25 rfl (by rw [ef_size, ints_len, hv.out])) h
theorem ef_store {t t' g T : Nat} {ty : TypeId} {ps : String} {af : Array Edge} {a : Act} {w : World} {ops : Array Oper} {rest : List Oper} {Q : Exit → Act → World → Prop} {x : List Int} {old : List Value}
    (hx : a.eval (.tmp t) = .pointer (some ⟨g, 0, none⟩)) (hy : a.eval (.tmp t') = .agg (ints x).toArray) (hb : Blk w g old T) (hl : old.length = 5) (hv : Hid (x.length = 5)) (h : wpList Tryd.prog ops Q rest (a.put none undef) (w.setCells g 0 (ints x))) :
    wpList Tryd.prog ops Q (⟨none, .store 25 (.tmp t) (.tmp t'), ty, ps, af, none⟩ :: rest) a w :=
  wpList_store_mid rfl 25 (.tmp t) (.tmp t') rfl g 0 _ hx hy (hb.there 0 _ (by rw [List.size_toArray, ints_len, hv.out, hl]; decide)) (by rw [ef_size, List.size_toArray, ints_len, hv.out]) (all_oneCell_toArray (fun u hu => ints_one hu)) (by rw [List.toList_toArray]; exact h)
theorem ef_store_new {t t' g T : Nat} {ty : TypeId} {ps : String} {af : Array Edge} {a : Act} {w : World} {ops : Array Oper} {rest : List Oper} {Q : Exit → Act → World → Prop} {x : List Int} {old : Array Value}
    (hx : a.eval (.tmp t) = .pointer (some ⟨g, 0, none⟩)) (hg : g = w.heap.size) (hy : a.eval (.tmp t') = .agg (ints x).toArray) (hl : old.size = 5) (hv : Hid (x.length = 5)) (h : wpList Tryd.prog ops Q rest (a.put none undef) (w.alloc (.cells (ints x).toArray T))) :
    wpList Tryd.prog ops Q (⟨none, .store 25 (.tmp t) (.tmp t'), ty, ps, af, none⟩ :: rest) a (w.alloc (.cells old T)) := by
  subst hg
  refine ef_store hx hy (Blk.new w old T) (by simpa using hl) hv ?_
  rw [setAll_new w old _ T (by rw [ints_len, hv.out, hl])]
  exact h
theorem Blk.ef {w : World} {g t : Nat} {x : List Int} (h : Blk w g (ints x) t) (hv : Hid (x.length = 5)) : w.rangeAt g 0 (ints x) := h.range 0 _ (by simp)
theorem ef_store0 {t t' g T : Nat} {ty : TypeId} {ps : String} {af : Array Edge} {a : Act} {w : World} {ops : Array Oper} {rest : List Oper} {Q : Exit → Act → World → Prop} {old : List Value}
    (hx : a.eval (.tmp t) = .pointer (some ⟨g, 0, none⟩)) (hy : a.eval (.tmp t') = (.agg #[.int .i64 0, .int .i64 0, .int .i64 0, .int .i64 0, .int .i64 0])) (hb : Blk w g old T) (hl : old.length = 5) (h : wpList Tryd.prog ops Q rest (a.put none undef) (w.setCells g 0 (ints [0, 0, 0, 0, 0]))) :
    wpList Tryd.prog ops Q (⟨none, .store 25 (.tmp t) (.tmp t'), ty, ps, af, none⟩ :: rest) a w :=
  ef_store (x := [0, 0, 0, 0, 0]) hx hy hb hl (Lib.hid rfl) h
set_option maxHeartbeats 2000000 in
theorem take1e_any {w0 : World} {B0 g0 g B k : Nat} {bs : List UInt8} {wr : World} (h : Rds w0 B0 g0 g B bs wr) (hk1 : 1 ≤ k) (hk8 : k ≤ 8) (hk : k ≤ bs.length) :
    Calls Tryd.prog 26 #[.int .i64 k, .pointer (some ⟨g0, 0, none⟩)] wr fun e w' => e = .returned (.int .i64 (s64 (numOf (bs.take k)))) ∧ Rds w0 B0 g0 g B (bs.drop k) w' ∧ wr.grownBy w' (some g) := by
  have C := Lib.hid (h.take hk1 hk8 hk)
  have c0 : wr.cell? ⟨g0, 0, none⟩ = some (.pointer (some ⟨g, 0, none⟩)) := h.var.cell 0
  clear h
  go_enter Tryd.func26, Tryd.ntmps26
  go_wp2_with fail
  refine C.out.mono ?_
  rintro e w2 ⟨rfl, h1, h2⟩
  go_wp2_with fail
  go_ret
  exact ⟨rfl, h1, h2⟩
end Go.Proofs.YteebmpbplenikaaDoor
