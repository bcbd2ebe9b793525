/- A change's nine cells, loaded and stored whole. -/
import Derived.Test.YtfffbhkenggdcaaChg2
import Derived.Test.YtfffbhkenggdcaaOct
import Derived.Deep.RegionHeld
import Derived.Test.YtfffbhkenggdcaaApp
import Derived.Test.YtfffbhkenggdcaaRow
import Derived.Test.YtfffbhkenggdcaaOps
import Derived.RegionTactic
import Derived.BigRegion
import Derived.ChangeAlike
namespace Go.Proofs.Ytfffbhkenggdcaa
set_option linter.unusedVariables false
set_option linter.unusedSimpArgs false
open Go.ChangeShapes Go.WideShapes Go.ChangeAt Go.RowKit
theorem cg_size : (Try.prog.info? 27).map (·.size) = some 9 := by kernel_rfl
theorem cg_load {d t g o : Nat} {ty : TypeId} {ps : String} {af : Array Edge} {a : Act} {w : World} {ops : Array Oper} {rest : List Oper} {Q : Exit → Act → World → Prop} {x : List Int}
    (hx : a.eval (.tmp t) = .pointer (some ⟨g, o, none⟩)) (hb : w.rangeAt g o (ints x)) (hv : Hid (x.length = 9)) (h : wpList Try.prog ops Q rest (a.put (some d) (.agg (ints x).toArray)) w) :
    wpList Try.prog ops Q (⟨some d, .load 27 (.tmp t), ty, ps, af, none⟩ :: rest) a w :=
  ls_run rfl (run_op_load rfl hx hb Try.underlying27 rfl (by rw [cg_size, ints_len, hv.out])) h
theorem cg_load_g {d t g o i : Nat} {b : Bool} {ty : TypeId} {ps : String} {af : Array Edge} {a : Act} {w : World} {ops : Array Oper} {rest : List Oper} {Q : Exit → Act → World → Prop} {x : List Int}
    (hx : a.eval (.tmp t) = .pointer (some ⟨g, o, none⟩)) (hw : Region.wanted ⟨some d, .load 27 (.tmp t), ty, ps, af, some (i, b)⟩ (yielded ops a.tmps) = true) (hb : w.rangeAt g o (ints x)) (hv : Hid (x.length = 9)) (h : wpList Try.prog ops Q rest (a.put (some d) (.agg (ints x).toArray)) w) :
    wpList Try.prog ops Q (⟨some d, .load 27 (.tmp t), ty, ps, af, some (i, b)⟩ :: rest) a w :=
  ls_run_g hw (run_op_load rfl hx hb Try.underlying27 rfl (by rw [cg_size, ints_len, hv.out])) h
theorem cg_load_st {d t g o : Nat} {gd : Option (Nat × Bool)} {ty : TypeId} {ps : String} {af : Array Edge} {a : Act} {w : World} {ops : Array Oper} {rest : List Oper} {R : Act → Prop} {x : List Int}
    (hx : a.eval (.tmp t) = .pointer (some ⟨g, o, none⟩)) (hw : Region.wanted ⟨some d, .load 27 (.tmp t), ty, ps, af, gd⟩ (yielded ops a.tmps) = true) (hb : w.rangeAt g o (ints x)) (hv : Hid (x.length = 9)) (h : wpStill Try.prog ops w R rest (a.put (some d) (.agg (ints x).toArray))) :
    wpStill Try.prog ops w R (⟨some d, .load 27 (.tmp t), ty, ps, af, gd⟩ :: rest) a :=
  st_run hw (run_op_load rfl hx hb Try.underlying27 rfl (by rw [cg_size, ints_len, hv.out])) h
theorem cg_store {t t' g T : Nat} {ty : TypeId} {ps : String} {af : Array Edge} {a : Act} {w : World} {ops : Array Oper} {rest : List Oper} {Q : Exit → Act → World → Prop} {x : List Int} {old : List Value}
    (hx : a.eval (.tmp t) = .pointer (some ⟨g, 0, none⟩)) (hy : a.eval (.tmp t') = .agg (ints x).toArray) (hb : Blk w g old T) (hl : old.length = 9) (hv : Hid (x.length = 9)) (h : wpList Try.prog ops Q rest (a.put none undef) (w.setCells g 0 (ints x))) :
    wpList Try.prog ops Q (⟨none, .store 27 (.tmp t) (.tmp t'), ty, ps, af, none⟩ :: rest) a w :=
  wpList_store_mid rfl 27 (.tmp t) (.tmp t') rfl g 0 _ hx hy (hb.there 0 _ (by rw [List.size_toArray, ints_len, hv.out, hl]; decide)) (by rw [cg_size, List.size_toArray, ints_len, hv.out]) (all_oneCell_toArray (fun u hu => ints_one hu)) (by rw [List.toList_toArray]; exact h)
theorem cg_store_new {t t' g T : Nat} {ty : TypeId} {ps : String} {af : Array Edge} {a : Act} {w : World} {ops : Array Oper} {rest : List Oper} {Q : Exit → Act → World → Prop} {x : List Int} {old : Array Value}
    (hx : a.eval (.tmp t) = .pointer (some ⟨g, 0, none⟩)) (hg : g = w.heap.size) (hy : a.eval (.tmp t') = .agg (ints x).toArray) (hl : old.size = 9) (hv : Hid (x.length = 9)) (h : wpList Try.prog ops Q rest (a.put none undef) (w.alloc (.cells (ints x).toArray T))) :
    wpList Try.prog ops Q (⟨none, .store 27 (.tmp t) (.tmp t'), ty, ps, af, none⟩ :: rest) a (w.alloc (.cells old T)) := by
  subst hg
  refine cg_store hx hy (Blk.new w old T) (by simpa using hl) hv ?_
  rw [setAll_new w old _ T (by rw [ints_len, hv.out, hl])]
  exact h
theorem Blk.cg {w : World} {g t : Nat} {x : List Int} (h : Blk w g (ints x) t) (hv : Hid (x.length = 9)) : w.rangeAt g 0 (ints x) := h.range 0 _ (by simp)
theorem cg_store0 {t t' g T : Nat} {ty : TypeId} {ps : String} {af : Array Edge} {a : Act} {w : World} {ops : Array Oper} {rest : List Oper} {Q : Exit → Act → World → Prop} {old : List Value}
    (hx : a.eval (.tmp t) = .pointer (some ⟨g, 0, none⟩)) (hy : a.eval (.tmp t') = (.agg #[.int .i64 0, .int .i64 0, .int .i64 0, .int .i64 0, .int .i64 0, .int .i64 0, .int .i64 0, .int .i64 0, .int .i64 0])) (hb : Blk w g old T) (hl : old.length = 9) (h : wpList Try.prog ops Q rest (a.put none undef) (w.setCells g 0 (ints [0, 0, 0, 0, 0, 0, 0, 0, 0]))) :
    wpList Try.prog ops Q (⟨none, .store 27 (.tmp t) (.tmp t'), ty, ps, af, none⟩ :: rest) a w :=
  cg_store (x := [0, 0, 0, 0, 0, 0, 0, 0, 0]) hx hy hb hl (Lib.hid rfl) h
end Go.Proofs.Ytfffbhkenggdcaa
