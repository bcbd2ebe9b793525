/- Records: their cells whole; how they are made. -/
import Derived.Test.YtfffbhkenggdcaaChg
import Derived.Test.YtfffbhkenggdcaaRow
import Derived.Test.YtfffbhkenggdcaaOps
import Derived.Test.YtfffbhkenggdcaaEq
import Derived.Test.YtfffbhkenggdcaaChgOps
import Derived.RegionTactic
import Derived.BigRegion
import Derived.ChangeAlike
namespace Go.Proofs.Ytfffbhkenggdcaa
set_option linter.unusedVariables false
set_option linter.unusedSimpArgs false
open Go.ChangeShapes Go.WideShapes Go.ChangeAt Go.RowKit
theorem rc_size : (Try.prog.info? 31).map (·.size) = some 17 := by kernel_rfl
theorem rc_load {d t g o : Nat} {ty : TypeId} {ps : String} {af : Array Edge} {a : Act} {w : World} {ops : Array Oper} {rest : List Oper} {Q : Exit → Act → World → Prop} {x : List Value}
    (hx : a.eval (.tmp t) = .pointer (some ⟨g, o, none⟩)) (hb : w.rangeAt g o (x)) (hv : Hid (x.length = 17 ∧ ∀ u ∈ x, u.oneCell' = true)) (h : wpList Try.prog ops Q rest (a.put (some d) (.agg (x).toArray)) w) :
    wpList Try.prog ops Q (⟨some d, .load 31 (.tmp t), ty, ps, af, none⟩ :: rest) a w :=
  ls_run rfl (run_op_load rfl hx hb Try.underlying31 rfl (by rw [rc_size, hv.out.1])) h
theorem rc_load_g {d t g o i : Nat} {b : Bool} {ty : TypeId} {ps : String} {af : Array Edge} {a : Act} {w : World} {ops : Array Oper} {rest : List Oper} {Q : Exit → Act → World → Prop} {x : List Value}
    (hx : a.eval (.tmp t) = .pointer (some ⟨g, o, none⟩)) (hw : Region.wanted ⟨some d, .load 31 (.tmp t), ty, ps, af, some (i, b)⟩ (yielded ops a.tmps) = true) (hb : w.rangeAt g o (x)) (hv : Hid (x.length = 17 ∧ ∀ u ∈ x, u.oneCell' = true)) (h : wpList Try.prog ops Q rest (a.put (some d) (.agg (x).toArray)) w) :
    wpList Try.prog ops Q (⟨some d, .load 31 (.tmp t), ty, ps, af, some (i, b)⟩ :: rest) a w :=
  ls_run_g hw (run_op_load rfl hx hb Try.underlying31 rfl (by rw [rc_size, hv.out.1])) h
theorem rc_load_st {d t g o : Nat} {gd : Option (Nat × Bool)} {ty : TypeId} {ps : String} {af : Array Edge} {a : Act} {w : World} {ops : Array Oper} {rest : List Oper} {R : Act → Prop} {x : List Value}
    (hx : a.eval (.tmp t) = .pointer (some ⟨g, o, none⟩)) (hw : Region.wanted ⟨some d, .load 31 (.tmp t), ty, ps, af, gd⟩ (yielded ops a.tmps) = true) (hb : w.rangeAt g o (x)) (hv : Hid (x.length = 17 ∧ ∀ u ∈ x, u.oneCell' = true)) (h : wpStill Try.prog ops w R rest (a.put (some d) (.agg (x).toArray))) :
    wpStill Try.prog ops w R (⟨some d, .load 31 (.tmp t), ty, ps, af, gd⟩ :: rest) a :=
  st_run hw (run_op_load rfl hx hb Try.underlying31 rfl (by rw [rc_size, hv.out.1])) h
theorem rc_store {t t' g T : Nat} {ty : TypeId} {ps : String} {af : Array Edge} {a : Act} {w : World} {ops : Array Oper} {rest : List Oper} {Q : Exit → Act → World → Prop} {x : List Value} {old : List Value}
    (hx : a.eval (.tmp t) = .pointer (some ⟨g, 0, none⟩)) (hy : a.eval (.tmp t') = .agg (x).toArray) (hb : Blk w g old T) (hl : old.length = 17) (hv : Hid (x.length = 17 ∧ ∀ u ∈ x, u.oneCell' = true)) (h : wpList Try.prog ops Q rest (a.put none undef) (w.setCells g 0 (x))) :
    wpList Try.prog ops Q (⟨none, .store 31 (.tmp t) (.tmp t'), ty, ps, af, none⟩ :: rest) a w :=
  wpList_store_mid rfl 31 (.tmp t) (.tmp t') rfl g 0 _ hx hy (hb.there 0 _ (by rw [List.size_toArray, hv.out.1, hl]; decide)) (by rw [rc_size, List.size_toArray, hv.out.1]) (all_oneCell_toArray (fun u hu => hv.out.2 u hu)) (by rw [List.toList_toArray]; exact h)
theorem rc_store_new {t t' g T : Nat} {ty : TypeId} {ps : String} {af : Array Edge} {a : Act} {w : World} {ops : Array Oper} {rest : List Oper} {Q : Exit → Act → World → Prop} {x : List Value} {old : Array Value}
    (hx : a.eval (.tmp t) = .pointer (some ⟨g, 0, none⟩)) (hg : g = w.heap.size) (hy : a.eval (.tmp t') = .agg (x).toArray) (hl : old.size = 17) (hv : Hid (x.length = 17 ∧ ∀ u ∈ x, u.oneCell' = true)) (h : wpList Try.prog ops Q rest (a.put none undef) (w.alloc (.cells (x).toArray T))) :
    wpList Try.prog ops Q (⟨none, .store 31 (.tmp t) (.tmp t'), ty, ps, af, none⟩ :: rest) a (w.alloc (.cells old T)) := by
  subst hg
  refine rc_store hx hy (Blk.new w old T) (by simpa using hl) hv ?_
  rw [setAll_new w old _ T (by rw [hv.out.1, hl])]
  exact h
theorem rr_size : (Try.prog.info? 35).map (·.size) = some 17 := by kernel_rfl
theorem rr_load {d t g o : Nat} {ty : TypeId} {ps : String} {af : Array Edge} {a : Act} {w : World} {ops : Array Oper} {rest : List Oper} {Q : Exit → Act → World → Prop} {x : List Value}
    (hx : a.eval (.tmp t) = .pointer (some ⟨g, o, none⟩)) (hb : w.rangeAt g o (x)) (hv : Hid (x.length = 17 ∧ ∀ u ∈ x, u.oneCell' = true)) (h : wpList Try.prog ops Q rest (a.put (some d) (.agg (x).toArray)) w) :
    wpList Try.prog ops Q (⟨some d, .load 35 (.tmp t), ty, ps, af, none⟩ :: rest) a w :=
  ls_run rfl (run_op_load rfl hx hb Try.underlying35 rfl (by rw [rr_size, hv.out.1])) h
theorem rr_load_g {d t g o i : Nat} {b : Bool} {ty : TypeId} {ps : String} {af : Array Edge} {a : Act} {w : World} {ops : Array Oper} {rest : List Oper} {Q : Exit → Act → World → Prop} {x : List Value}
    (hx : a.eval (.tmp t) = .pointer (some ⟨g, o, none⟩)) (hw : Region.wanted ⟨some d, .load 35 (.tmp t), ty, ps, af, some (i, b)⟩ (yielded ops a.tmps) = true) (hb : w.rangeAt g o (x)) (hv : Hid (x.length = 17 ∧ ∀ u ∈ x, u.oneCell' = true)) (h : wpList Try.prog ops Q rest (a.put (some d) (.agg (x).toArray)) w) :
    wpList Try.prog ops Q (⟨some d, .load 35 (.tmp t), ty, ps, af, some (i, b)⟩ :: rest) a w :=
  ls_run_g hw (run_op_load rfl hx hb Try.underlying35 rfl (by rw [rr_size, hv.out.1])) h
theorem rr_load_st {d t g o : Nat} {gd : Option (Nat × Bool)} {ty : TypeId} {ps : String} {af : Array Edge} {a : Act} {w : World} {ops : Array Oper} {rest : List Oper} {R : Act → Prop} {x : List Value}
    (hx : a.eval (.tmp t) = .pointer (some ⟨g, o, none⟩)) (hw : Region.wanted ⟨some d, .load 35 (.tmp t), ty, ps, af, gd⟩ (yielded ops a.tmps) = true) (hb : w.rangeAt g o (x)) (hv : Hid (x.length = 17 ∧ ∀ u ∈ x, u.oneCell' = true)) (h : wpStill Try.prog ops w R rest (a.put (some d) (.agg (x).toArray))) :
    wpStill Try.prog ops w R (⟨some d, .load 35 (.tmp t), ty, ps, af, gd⟩ :: rest) a :=
  st_run hw (run_op_load rfl hx hb Try.underlying35 rfl (by rw [rr_size, hv.out.1])) h
theorem rr_store {t t' g T : Nat} {ty : TypeId} {ps : String} {af : Array Edge} {a : Act} {w : World} {ops : Array Oper} {rest : List Oper} {Q : Exit → Act → World → Prop} {x : List Value} {old : List Value}
    (hx : a.eval (.tmp t) = .pointer (some ⟨g, 0, none⟩)) (hy : a.eval (.tmp t') = .agg (x).toArray) (hb : Blk w g old T) (hl : old.length = 17) (hv : Hid (x.length = 17 ∧ ∀ u ∈ x, u.oneCell' = true)) (h : wpList Try.prog ops Q rest (a.put none undef) (w.setCells g 0 (x))) :
    wpList Try.prog ops Q (⟨none, .store 35 (.tmp t) (.tmp t'), ty, ps, af, none⟩ :: rest) a w :=
  wpList_store_mid rfl 35 (.tmp t) (.tmp t') rfl g 0 _ hx hy (hb.there 0 _ (by rw [List.size_toArray, hv.out.1, hl]; decide)) (by rw [rr_size, List.size_toArray, hv.out.1]) (all_oneCell_toArray (fun u hu => hv.out.2 u hu)) (by rw [List.toList_toArray]; exact h)
theorem rr_store_new {t t' g T : Nat} {ty : TypeId} {ps : String} {af : Array Edge} {a : Act} {w : World} {ops : Array Oper} {rest : List Oper} {Q : Exit → Act → World → Prop} {x : List Value} {old : Array Value}
    (hx : a.eval (.tmp t) = .pointer (some ⟨g, 0, none⟩)) (hg : g = w.heap.size) (hy : a.eval (.tmp t') = .agg (x).toArray) (hl : old.size = 17) (hv : Hid (x.length = 17 ∧ ∀ u ∈ x, u.oneCell' = true)) (h : wpList Try.prog ops Q rest (a.put none undef) (w.alloc (.cells (x).toArray T))) :
    wpList Try.prog ops Q (⟨none, .store 35 (.tmp t) (.tmp t'), ty, ps, af, none⟩ :: rest) a (w.alloc (.cells old T)) := by
  subst hg
  refine rr_store hx hy (Blk.new w old T) (by simpa using hl) hv ?_
  rw [setAll_new w old _ T (by rw [hv.out.1, hl])]
  exact h
/-- a record's cells. -/
def rec17 (kd r s t k a b n p q i1 i2 k1 k2 ko : Int) (ku : Bool) (now : Int) : List Value := [.int .i64 kd, .int .i64 r, .int .i64 s, .int .i64 t, .int .i64 k, .int .i64 a, .int .i64 b, .int .i64 n, .int .i64 p, .int .i64 q, .int .i64 i1, .int .i64 i2, .int .i64 k1, .int .i64 k2, .int .i64 ko, .bool ku, .int .i64 now]
theorem rec17_ok (kd r s t k a b n p q i1 i2 k1 k2 ko : Int) (ku : Bool) (now : Int) : Hid ((rec17 kd r s t k a b n p q i1 i2 k1 k2 ko ku now).length = 17 ∧ ∀ u ∈ rec17 kd r s t k a b n p q i1 i2 k1 k2 ko ku now, u.oneCell' = true) := Lib.hid (by
  refine ⟨rfl, ?_⟩
  intro u hu
  simp only [rec17, List.mem_cons, List.not_mem_nil, or_false] at hu
  rcases hu with h | h | h | h | h | h | h | h | h | h | h | h | h | h | h | h | h <;> subst h <;> rfl)
/-- a request's name: its cells. -/
def key4 (k1 k2 ko : Int) (ku : Bool) : List Value := [.int .i64 k1, .int .i64 k2, .int .i64 ko, .bool ku]
set_option maxRecDepth 100000 in
set_option maxHeartbeats 4000000 in
theorem mkC_any (r s t k a b n p q : Int) (w : World) : Calls Try.prog 10 #[.agg #[.int .i64 r, .int .i64 s, .int .i64 t, .int .i64 k, .int .i64 a, .int .i64 b, .int .i64 n, .int .i64 p, .int .i64 q]] w fun e w' => e = .returned (.agg (rec17 1 r s t k a b n p q 0 0 0 0 0 false 0).toArray) ∧ Below w.heap.size w w' := by
  have A1 := Blk.new w #[.int .i64 r, .int .i64 s, .int .i64 t, .int .i64 k, .int .i64 a, .int .i64 b, .int .i64 n, .int .i64 p, .int .i64 q] 27
  have hz1 : (w.alloc (.cells #[.int .i64 r, .int .i64 s, .int .i64 t, .int .i64 k, .int .i64 a, .int .i64 b, .int .i64 n, .int .i64 p, .int .i64 q] 27)).heap.size = w.heap.size + 1 := by simp
  have AC : Blk ((w.alloc (.cells #[.int .i64 r, .int .i64 s, .int .i64 t, .int .i64 k, .int .i64 a, .int .i64 b, .int .i64 n, .int .i64 p, .int .i64 q] 27)).alloc (.cells #[.int .i64 0, .int .i64 0, .int .i64 0, .int .i64 0, .int .i64 0, .int .i64 0, .int .i64 0, .int .i64 0, .int .i64 0, .int .i64 0, .int .i64 0, .int .i64 0, .int .i64 0, .int .i64 0, .int .i64 0, .bool false, .int .i64 0] 31)) (w.heap.size + 1) [.int .i64 0, .int .i64 0, .int .i64 0, .int .i64 0, .int .i64 0, .int .i64 0, .int .i64 0, .int .i64 0, .int .i64 0, .int .i64 0, .int .i64 0, .int .i64 0, .int .i64 0, .int .i64 0, .int .i64 0, .bool false, .int .i64 0] 31 := hz1 ▸ Blk.new (w.alloc (.cells #[.int .i64 r, .int .i64 s, .int .i64 t, .int .i64 k, .int .i64 a, .int .i64 b, .int .i64 n, .int .i64 p, .int .i64 q] 27)) #[.int .i64 0, .int .i64 0, .int .i64 0, .int .i64 0, .int .i64 0, .int .i64 0, .int .i64 0, .int .i64 0, .int .i64 0, .int .i64 0, .int .i64 0, .int .i64 0, .int .i64 0, .int .i64 0, .int .i64 0, .bool false, .int .i64 0] 31
  have A : Blk ((w.alloc (.cells #[.int .i64 r, .int .i64 s, .int .i64 t, .int .i64 k, .int .i64 a, .int .i64 b, .int .i64 n, .int .i64 p, .int .i64 q] 27)).alloc (.cells #[.int .i64 0, .int .i64 0, .int .i64 0, .int .i64 0, .int .i64 0, .int .i64 0, .int .i64 0, .int .i64 0, .int .i64 0, .int .i64 0, .int .i64 0, .int .i64 0, .int .i64 0, .int .i64 0, .int .i64 0, .bool false, .int .i64 0] 31)) w.heap.size [.int .i64 r, .int .i64 s, .int .i64 t, .int .i64 k, .int .i64 a, .int .i64 b, .int .i64 n, .int .i64 p, .int .i64 q] 27 := (A1.alloc _)
  have HC := Lib.hid AC
  have HB := Lib.hid ((((Below.refl w.heap.size w).alloc (Nat.le_refl _) (.cells #[.int .i64 r, .int .i64 s, .int .i64 t, .int .i64 k, .int .i64 a, .int .i64 b, .int .i64 n, .int .i64 p, .int .i64 q] 27)).alloc (by rw [hz1]; omega) (.cells #[.int .i64 0, .int .i64 0, .int .i64 0, .int .i64 0, .int .i64 0, .int .i64 0, .int .i64 0, .int .i64 0, .int .i64 0, .int .i64 0, .int .i64 0, .int .i64 0, .int .i64 0, .int .i64 0, .int .i64 0, .bool false, .int .i64 0] 31)))
  have HV := rec17_ok 1 r s t k a b n p q 0 0 0 0 0 false 0
  clear A1 AC hz1
  go_enter Try.func10, Try.ntmps10
  go_upto_region 1 with fail
  generalize ((w.alloc (.cells #[.int .i64 r, .int .i64 s, .int .i64 t, .int .i64 k, .int .i64 a, .int .i64 b, .int .i64 n, .int .i64 p, .int .i64 q] 27)).alloc (.cells #[.int .i64 0, .int .i64 0, .int .i64 0, .int .i64 0, .int .i64 0, .int .i64 0, .int .i64 0, .int .i64 0, .int .i64 0, .int .i64 0, .int .i64 0, .int .i64 0, .int .i64 0, .int .i64 0, .int .i64 0, .bool false, .int .i64 0] 31)) = W at *
  have rx : W.rangeAt w.heap.size 0 [.int .i64 r, .int .i64 s, .int .i64 t, .int .i64 k, .int .i64 a, .int .i64 b, .int .i64 n, .int .i64 p, .int .i64 q] := A.range 0 _ (by simp)
  have c0 : W.cell? ⟨w.heap.size, 0, none⟩ = some (.int .i64 r) := A.cell 0
  have c1 : W.cell? ⟨w.heap.size, 1, none⟩ = some (.int .i64 s) := A.cell 1
  have c2 : W.cell? ⟨w.heap.size, 2, none⟩ = some (.int .i64 t) := A.cell 2
  have c3 : W.cell? ⟨w.heap.size, 3, none⟩ = some (.int .i64 k) := A.cell 3
  have c4 : W.cell? ⟨w.heap.size, 4, none⟩ = some (.int .i64 a) := A.cell 4
  have c5 : W.cell? ⟨w.heap.size, 5, none⟩ = some (.int .i64 b) := A.cell 5
  have c6 : W.cell? ⟨w.heap.size, 6, none⟩ = some (.int .i64 n) := A.cell 6
  have c7 : W.cell? ⟨w.heap.size, 7, none⟩ = some (.int .i64 p) := A.cell 7
  have c8 : W.cell? ⟨w.heap.size, 8, none⟩ = some (.int .i64 q) := A.cell 8
  have C5 := Lib.hid (HC.out.setAll (rec17 1 r s t k a b n p q 0 0 0 0 0 false 0) rfl)
  have HBZ := Lib.hid (below_sets (Nat.le_succ _) (rec17 1 r s t k a b n p q 0 0 0 0 0 false 0) 0 _ HB.out)
  clear A
  go_wp2_with (first
    | ((with_reducible apply rc_store); (· rfl); (· show _ = Value.agg (rec17 1 r s t k a b n p q 0 0 0 0 0 false 0).toArray; rfl); (· exact HC.out); (· rfl); (· exact HV); (simp only [Act.put, List.setIfInBounds_toArray, List.set_cons_zero, List.set_cons_succ]); (generalize W.setCells (w.heap.size + 1) 0 (rec17 1 r s t k a b n p q 0 0 0 0 0 false 0) = WW at *)))
  refine ret_cell (p := 2) rfl rfl C5.out Try.underlying31 rfl (by rw [rc_size]; rfl) rfl ⟨rfl, HBZ.out⟩
set_option maxRecDepth 100000 in
set_option maxHeartbeats 4000000 in
theorem mkM_any (i1 i2 : Int) (w : World) : Calls Try.prog 11 #[.agg #[.int .i64 i1, .int .i64 i2]] w fun e w' => e = .returned (.agg (rec17 2 0 0 0 0 0 0 0 0 0 i1 i2 0 0 0 false 0).toArray) ∧ Below w.heap.size w w' := by
  have A1 := Blk.new w #[.int .i64 i1, .int .i64 i2] 25
  have hz1 : (w.alloc (.cells #[.int .i64 i1, .int .i64 i2] 25)).heap.size = w.heap.size + 1 := by simp
  have AC : Blk ((w.alloc (.cells #[.int .i64 i1, .int .i64 i2] 25)).alloc (.cells #[.int .i64 0, .int .i64 0, .int .i64 0, .int .i64 0, .int .i64 0, .int .i64 0, .int .i64 0, .int .i64 0, .int .i64 0, .int .i64 0, .int .i64 0, .int .i64 0, .int .i64 0, .int .i64 0, .int .i64 0, .bool false, .int .i64 0] 31)) (w.heap.size + 1) [.int .i64 0, .int .i64 0, .int .i64 0, .int .i64 0, .int .i64 0, .int .i64 0, .int .i64 0, .int .i64 0, .int .i64 0, .int .i64 0, .int .i64 0, .int .i64 0, .int .i64 0, .int .i64 0, .int .i64 0, .bool false, .int .i64 0] 31 := hz1 ▸ Blk.new (w.alloc (.cells #[.int .i64 i1, .int .i64 i2] 25)) #[.int .i64 0, .int .i64 0, .int .i64 0, .int .i64 0, .int .i64 0, .int .i64 0, .int .i64 0, .int .i64 0, .int .i64 0, .int .i64 0, .int .i64 0, .int .i64 0, .int .i64 0, .int .i64 0, .int .i64 0, .bool false, .int .i64 0] 31
  have A : Blk ((w.alloc (.cells #[.int .i64 i1, .int .i64 i2] 25)).alloc (.cells #[.int .i64 0, .int .i64 0, .int .i64 0, .int .i64 0, .int .i64 0, .int .i64 0, .int .i64 0, .int .i64 0, .int .i64 0, .int .i64 0, .int .i64 0, .int .i64 0, .int .i64 0, .int .i64 0, .int .i64 0, .bool false, .int .i64 0] 31)) w.heap.size [.int .i64 i1, .int .i64 i2] 25 := (A1.alloc _)
  have HC := Lib.hid AC
  have HB := Lib.hid ((((Below.refl w.heap.size w).alloc (Nat.le_refl _) (.cells #[.int .i64 i1, .int .i64 i2] 25)).alloc (by rw [hz1]; omega) (.cells #[.int .i64 0, .int .i64 0, .int .i64 0, .int .i64 0, .int .i64 0, .int .i64 0, .int .i64 0, .int .i64 0, .int .i64 0, .int .i64 0, .int .i64 0, .int .i64 0, .int .i64 0, .int .i64 0, .int .i64 0, .bool false, .int .i64 0] 31)))
  have HV := rec17_ok 2 0 0 0 0 0 0 0 0 0 i1 i2 0 0 0 false 0
  clear A1 AC hz1
  go_enter Try.func11, Try.ntmps11
  go_upto_region 1 with fail
  generalize ((w.alloc (.cells #[.int .i64 i1, .int .i64 i2] 25)).alloc (.cells #[.int .i64 0, .int .i64 0, .int .i64 0, .int .i64 0, .int .i64 0, .int .i64 0, .int .i64 0, .int .i64 0, .int .i64 0, .int .i64 0, .int .i64 0, .int .i64 0, .int .i64 0, .int .i64 0, .int .i64 0, .bool false, .int .i64 0] 31)) = W at *
  have rx : W.rangeAt w.heap.size 0 [.int .i64 i1, .int .i64 i2] := A.range 0 _ (by simp)
  have c0 : W.cell? ⟨w.heap.size, 0, none⟩ = some (.int .i64 i1) := A.cell 0
  have c1 : W.cell? ⟨w.heap.size, 1, none⟩ = some (.int .i64 i2) := A.cell 1
  have C5 := Lib.hid (HC.out.setAll (rec17 2 0 0 0 0 0 0 0 0 0 i1 i2 0 0 0 false 0) rfl)
  have HBZ := Lib.hid (below_sets (Nat.le_succ _) (rec17 2 0 0 0 0 0 0 0 0 0 i1 i2 0 0 0 false 0) 0 _ HB.out)
  clear A
  go_wp2_with (first
    | ((with_reducible apply rc_store); (· rfl); (· show _ = Value.agg (rec17 2 0 0 0 0 0 0 0 0 0 i1 i2 0 0 0 false 0).toArray; rfl); (· exact HC.out); (· rfl); (· exact HV); (simp only [Act.put, List.setIfInBounds_toArray, List.set_cons_zero, List.set_cons_succ]); (generalize W.setCells (w.heap.size + 1) 0 (rec17 2 0 0 0 0 0 0 0 0 0 i1 i2 0 0 0 false 0) = WW at *)))
  refine ret_cell (p := 2) rfl rfl C5.out Try.underlying31 rfl (by rw [rc_size]; rfl) rfl ⟨rfl, HBZ.out⟩
set_option maxRecDepth 100000 in
set_option maxHeartbeats 4000000 in
theorem mkT_any (k1 k2 ko : Int) (ku : Bool) (now : Int) (w : World) : Calls Try.prog 12 #[.agg #[.int .i64 k1, .int .i64 k2, .int .i64 ko, .bool ku], .int .i64 now] w fun e w' => e = .returned (.agg (rec17 3 0 0 0 0 0 0 0 0 0 0 0 k1 k2 ko ku now).toArray) ∧ Below w.heap.size w w' := by
  have A1 := Blk.new w #[.int .i64 k1, .int .i64 k2, .int .i64 ko, .bool ku] 29
  have hz1 : (w.alloc (.cells #[.int .i64 k1, .int .i64 k2, .int .i64 ko, .bool ku] 29)).heap.size = w.heap.size + 1 := by simp
  have AC : Blk ((w.alloc (.cells #[.int .i64 k1, .int .i64 k2, .int .i64 ko, .bool ku] 29)).alloc (.cells #[.int .i64 0, .int .i64 0, .int .i64 0, .int .i64 0, .int .i64 0, .int .i64 0, .int .i64 0, .int .i64 0, .int .i64 0, .int .i64 0, .int .i64 0, .int .i64 0, .int .i64 0, .int .i64 0, .int .i64 0, .bool false, .int .i64 0] 31)) (w.heap.size + 1) [.int .i64 0, .int .i64 0, .int .i64 0, .int .i64 0, .int .i64 0, .int .i64 0, .int .i64 0, .int .i64 0, .int .i64 0, .int .i64 0, .int .i64 0, .int .i64 0, .int .i64 0, .int .i64 0, .int .i64 0, .bool false, .int .i64 0] 31 := hz1 ▸ Blk.new (w.alloc (.cells #[.int .i64 k1, .int .i64 k2, .int .i64 ko, .bool ku] 29)) #[.int .i64 0, .int .i64 0, .int .i64 0, .int .i64 0, .int .i64 0, .int .i64 0, .int .i64 0, .int .i64 0, .int .i64 0, .int .i64 0, .int .i64 0, .int .i64 0, .int .i64 0, .int .i64 0, .int .i64 0, .bool false, .int .i64 0] 31
  have A : Blk ((w.alloc (.cells #[.int .i64 k1, .int .i64 k2, .int .i64 ko, .bool ku] 29)).alloc (.cells #[.int .i64 0, .int .i64 0, .int .i64 0, .int .i64 0, .int .i64 0, .int .i64 0, .int .i64 0, .int .i64 0, .int .i64 0, .int .i64 0, .int .i64 0, .int .i64 0, .int .i64 0, .int .i64 0, .int .i64 0, .bool false, .int .i64 0] 31)) w.heap.size [.int .i64 k1, .int .i64 k2, .int .i64 ko, .bool ku] 29 := (A1.alloc _)
  have HC := Lib.hid AC
  have HB := Lib.hid ((((Below.refl w.heap.size w).alloc (Nat.le_refl _) (.cells #[.int .i64 k1, .int .i64 k2, .int .i64 ko, .bool ku] 29)).alloc (by rw [hz1]; omega) (.cells #[.int .i64 0, .int .i64 0, .int .i64 0, .int .i64 0, .int .i64 0, .int .i64 0, .int .i64 0, .int .i64 0, .int .i64 0, .int .i64 0, .int .i64 0, .int .i64 0, .int .i64 0, .int .i64 0, .int .i64 0, .bool false, .int .i64 0] 31)))
  have HV := rec17_ok 3 0 0 0 0 0 0 0 0 0 0 0 k1 k2 ko ku now
  clear A1 AC hz1
  go_enter Try.func12, Try.ntmps12
  go_upto_region 1 with fail
  generalize ((w.alloc (.cells #[.int .i64 k1, .int .i64 k2, .int .i64 ko, .bool ku] 29)).alloc (.cells #[.int .i64 0, .int .i64 0, .int .i64 0, .int .i64 0, .int .i64 0, .int .i64 0, .int .i64 0, .int .i64 0, .int .i64 0, .int .i64 0, .int .i64 0, .int .i64 0, .int .i64 0, .int .i64 0, .int .i64 0, .bool false, .int .i64 0] 31)) = W at *
  have rx : W.rangeAt w.heap.size 0 [.int .i64 k1, .int .i64 k2, .int .i64 ko, .bool ku] := A.range 0 _ (by simp)
  have c0 : W.cell? ⟨w.heap.size, 0, none⟩ = some (.int .i64 k1) := A.cell 0
  have c1 : W.cell? ⟨w.heap.size, 1, none⟩ = some (.int .i64 k2) := A.cell 1
  have c2 : W.cell? ⟨w.heap.size, 2, none⟩ = some (.int .i64 ko) := A.cell 2
  have c3 : W.cell? ⟨w.heap.size, 3, none⟩ = some (.bool ku) := A.cell 3
  have C5 := Lib.hid (HC.out.setAll (rec17 3 0 0 0 0 0 0 0 0 0 0 0 k1 k2 ko ku now) rfl)
  have HBZ := Lib.hid (below_sets (Nat.le_succ _) (rec17 3 0 0 0 0 0 0 0 0 0 0 0 k1 k2 ko ku now) 0 _ HB.out)
  clear A
  go_wp2_with (first
    | ((with_reducible apply rc_store); (· rfl); (· show _ = Value.agg (rec17 3 0 0 0 0 0 0 0 0 0 0 0 k1 k2 ko ku now).toArray; rfl); (· exact HC.out); (· rfl); (· exact HV); (simp only [Act.put, List.setIfInBounds_toArray, List.set_cons_zero, List.set_cons_succ]); (generalize W.setCells (w.heap.size + 1) 0 (rec17 3 0 0 0 0 0 0 0 0 0 0 0 k1 k2 ko ku now) = WW at *)))
  refine ret_cell (p := 4) rfl rfl C5.out Try.underlying31 rfl (by rw [rc_size]; rfl) rfl ⟨rfl, HBZ.out⟩
set_option maxRecDepth 100000 in
set_option maxHeartbeats 4000000 in
theorem mkA_any (k1 k2 ko : Int) (ku : Bool) (w : World) : Calls Try.prog 13 #[.agg #[.int .i64 k1, .int .i64 k2, .int .i64 ko, .bool ku]] w fun e w' => e = .returned (.agg (rec17 4 0 0 0 0 0 0 0 0 0 0 0 k1 k2 ko ku 0).toArray) ∧ Below w.heap.size w w' := by
  have A1 := Blk.new w #[.int .i64 k1, .int .i64 k2, .int .i64 ko, .bool ku] 29
  have hz1 : (w.alloc (.cells #[.int .i64 k1, .int .i64 k2, .int .i64 ko, .bool ku] 29)).heap.size = w.heap.size + 1 := by simp
  have AC : Blk ((w.alloc (.cells #[.int .i64 k1, .int .i64 k2, .int .i64 ko, .bool ku] 29)).alloc (.cells #[.int .i64 0, .int .i64 0, .int .i64 0, .int .i64 0, .int .i64 0, .int .i64 0, .int .i64 0, .int .i64 0, .int .i64 0, .int .i64 0, .int .i64 0, .int .i64 0, .int .i64 0, .int .i64 0, .int .i64 0, .bool false, .int .i64 0] 31)) (w.heap.size + 1) [.int .i64 0, .int .i64 0, .int .i64 0, .int .i64 0, .int .i64 0, .int .i64 0, .int .i64 0, .int .i64 0, .int .i64 0, .int .i64 0, .int .i64 0, .int .i64 0, .int .i64 0, .int .i64 0, .int .i64 0, .bool false, .int .i64 0] 31 := hz1 ▸ Blk.new (w.alloc (.cells #[.int .i64 k1, .int .i64 k2, .int .i64 ko, .bool ku] 29)) #[.int .i64 0, .int .i64 0, .int .i64 0, .int .i64 0, .int .i64 0, .int .i64 0, .int .i64 0, .int .i64 0, .int .i64 0, .int .i64 0, .int .i64 0, .int .i64 0, .int .i64 0, .int .i64 0, .int .i64 0, .bool false, .int .i64 0] 31
  have A : Blk ((w.alloc (.cells #[.int .i64 k1, .int .i64 k2, .int .i64 ko, .bool ku] 29)).alloc (.cells #[.int .i64 0, .int .i64 0, .int .i64 0, .int .i64 0, .int .i64 0, .int .i64 0, .int .i64 0, .int .i64 0, .int .i64 0, .int .i64 0, .int .i64 0, .int .i64 0, .int .i64 0, .int .i64 0, .int .i64 0, .bool false, .int .i64 0] 31)) w.heap.size [.int .i64 k1, .int .i64 k2, .int .i64 ko, .bool ku] 29 := (A1.alloc _)
  have HC := Lib.hid AC
  have HB := Lib.hid ((((Below.refl w.heap.size w).alloc (Nat.le_refl _) (.cells #[.int .i64 k1, .int .i64 k2, .int .i64 ko, .bool ku] 29)).alloc (by rw [hz1]; omega) (.cells #[.int .i64 0, .int .i64 0, .int .i64 0, .int .i64 0, .int .i64 0, .int .i64 0, .int .i64 0, .int .i64 0, .int .i64 0, .int .i64 0, .int .i64 0, .int .i64 0, .int .i64 0, .int .i64 0, .int .i64 0, .bool false, .int .i64 0] 31)))
  have HV := rec17_ok 4 0 0 0 0 0 0 0 0 0 0 0 k1 k2 ko ku 0
  clear A1 AC hz1
  go_enter Try.func13, Try.ntmps13
  go_upto_region 1 with fail
  generalize ((w.alloc (.cells #[.int .i64 k1, .int .i64 k2, .int .i64 ko, .bool ku] 29)).alloc (.cells #[.int .i64 0, .int .i64 0, .int .i64 0, .int .i64 0, .int .i64 0, .int .i64 0, .int .i64 0, .int .i64 0, .int .i64 0, .int .i64 0, .int .i64 0, .int .i64 0, .int .i64 0, .int .i64 0, .int .i64 0, .bool false, .int .i64 0] 31)) = W at *
  have rx : W.rangeAt w.heap.size 0 [.int .i64 k1, .int .i64 k2, .int .i64 ko, .bool ku] := A.range 0 _ (by simp)
  have c0 : W.cell? ⟨w.heap.size, 0, none⟩ = some (.int .i64 k1) := A.cell 0
  have c1 : W.cell? ⟨w.heap.size, 1, none⟩ = some (.int .i64 k2) := A.cell 1
  have c2 : W.cell? ⟨w.heap.size, 2, none⟩ = some (.int .i64 ko) := A.cell 2
  have c3 : W.cell? ⟨w.heap.size, 3, none⟩ = some (.bool ku) := A.cell 3
  have C5 := Lib.hid (HC.out.setAll (rec17 4 0 0 0 0 0 0 0 0 0 0 0 k1 k2 ko ku 0) rfl)
  have HBZ := Lib.hid (below_sets (Nat.le_succ _) (rec17 4 0 0 0 0 0 0 0 0 0 0 0 k1 k2 ko ku 0) 0 _ HB.out)
  clear A
  go_wp2_with (first
    | ((with_reducible apply rc_store); (· rfl); (· show _ = Value.agg (rec17 4 0 0 0 0 0 0 0 0 0 0 0 k1 k2 ko ku 0).toArray; rfl); (· exact HC.out); (· rfl); (· exact HV); (simp only [Act.put, List.setIfInBounds_toArray, List.set_cons_zero, List.set_cons_succ]); (generalize W.setCells (w.heap.size + 1) 0 (rec17 4 0 0 0 0 0 0 0 0 0 0 0 k1 k2 ko ku 0) = WW at *)))
  refine ret_cell (p := 2) rfl rfl C5.out Try.underlying31 rfl (by rw [rc_size]; rfl) rfl ⟨rfl, HBZ.out⟩
end Go.Proofs.Ytfffbhkenggdcaa
