/- A request's name read off a reader. -/
import Derived.Test.YtfffbhkenggdcaaRec5
import Derived.Test.YtfffbhkenggdcaaRow
import Derived.Test.YtfffbhkenggdcaaOps
import Derived.Test.YtfffbhkenggdcaaEq
import Derived.Test.YtfffbhkenggdcaaChgOps
import Derived.RegionTactic
import Derived.BigRegion
import Derived.ChangeAlike
namespace Go.Proofs.Ytfffbhkenggdcaa
set_option linter.unusedVariables false
set_option linter.unusedSimpArgs false
open Go.ChangeShapes Go.WideShapes Go.ChangeAt Go.RowKit
theorem ky_size : (Try.prog.info? 29).map (·.size) = some 4 := by kernel_rfl
theorem ky_load {d t g o : Nat} {ty : TypeId} {ps : String} {af : Array Edge} {a : Act} {w : World} {ops : Array Oper} {rest : List Oper} {Q : Exit → Act → World → Prop} {x : List Value}
    (hx : a.eval (.tmp t) = .pointer (some ⟨g, o, none⟩)) (hb : w.rangeAt g o (x)) (hv : Hid (x.length = 4 ∧ ∀ u ∈ x, u.oneCell' = true)) (h : wpList Try.prog ops Q rest (a.put (some d) (.agg (x).toArray)) w) :
    wpList Try.prog ops Q (⟨some d, .load 29 (.tmp t), ty, ps, af, none⟩ :: rest) a w :=
  ls_run rfl (run_op_load rfl hx hb Try.underlying29 rfl (by rw [ky_size, hv.out.1])) h
theorem ky_load_g {d t g o i : Nat} {b : Bool} {ty : TypeId} {ps : String} {af : Array Edge} {a : Act} {w : World} {ops : Array Oper} {rest : List Oper} {Q : Exit → Act → World → Prop} {x : List Value}
    (hx : a.eval (.tmp t) = .pointer (some ⟨g, o, none⟩)) (hw : Region.wanted ⟨some d, .load 29 (.tmp t), ty, ps, af, some (i, b)⟩ (yielded ops a.tmps) = true) (hb : w.rangeAt g o (x)) (hv : Hid (x.length = 4 ∧ ∀ u ∈ x, u.oneCell' = true)) (h : wpList Try.prog ops Q rest (a.put (some d) (.agg (x).toArray)) w) :
    wpList Try.prog ops Q (⟨some d, .load 29 (.tmp t), ty, ps, af, some (i, b)⟩ :: rest) a w :=
  ls_run_g hw (run_op_load rfl hx hb Try.underlying29 rfl (by rw [ky_size, hv.out.1])) h
theorem ky_load_st {d t g o : Nat} {gd : Option (Nat × Bool)} {ty : TypeId} {ps : String} {af : Array Edge} {a : Act} {w : World} {ops : Array Oper} {rest : List Oper} {R : Act → Prop} {x : List Value}
    (hx : a.eval (.tmp t) = .pointer (some ⟨g, o, none⟩)) (hw : Region.wanted ⟨some d, .load 29 (.tmp t), ty, ps, af, gd⟩ (yielded ops a.tmps) = true) (hb : w.rangeAt g o (x)) (hv : Hid (x.length = 4 ∧ ∀ u ∈ x, u.oneCell' = true)) (h : wpStill Try.prog ops w R rest (a.put (some d) (.agg (x).toArray))) :
    wpStill Try.prog ops w R (⟨some d, .load 29 (.tmp t), ty, ps, af, gd⟩ :: rest) a :=
  st_run hw (run_op_load rfl hx hb Try.underlying29 rfl (by rw [ky_size, hv.out.1])) h
theorem ky_store {t t' g T : Nat} {ty : TypeId} {ps : String} {af : Array Edge} {a : Act} {w : World} {ops : Array Oper} {rest : List Oper} {Q : Exit → Act → World → Prop} {x : List Value} {old : List Value}
    (hx : a.eval (.tmp t) = .pointer (some ⟨g, 0, none⟩)) (hy : a.eval (.tmp t') = .agg (x).toArray) (hb : Blk w g old T) (hl : old.length = 4) (hv : Hid (x.length = 4 ∧ ∀ u ∈ x, u.oneCell' = true)) (h : wpList Try.prog ops Q rest (a.put none undef) (w.setCells g 0 (x))) :
    wpList Try.prog ops Q (⟨none, .store 29 (.tmp t) (.tmp t'), ty, ps, af, none⟩ :: rest) a w :=
  wpList_store_mid rfl 29 (.tmp t) (.tmp t') rfl g 0 _ hx hy (hb.there 0 _ (by rw [List.size_toArray, hv.out.1, hl]; decide)) (by rw [ky_size, List.size_toArray, hv.out.1]) (all_oneCell_toArray (fun u hu => hv.out.2 u hu)) (by rw [List.toList_toArray]; exact h)
theorem ky_store_new {t t' g T : Nat} {ty : TypeId} {ps : String} {af : Array Edge} {a : Act} {w : World} {ops : Array Oper} {rest : List Oper} {Q : Exit → Act → World → Prop} {x : List Value} {old : Array Value}
    (hx : a.eval (.tmp t) = .pointer (some ⟨g, 0, none⟩)) (hg : g = w.heap.size) (hy : a.eval (.tmp t') = .agg (x).toArray) (hl : old.size = 4) (hv : Hid (x.length = 4 ∧ ∀ u ∈ x, u.oneCell' = true)) (h : wpList Try.prog ops Q rest (a.put none undef) (w.alloc (.cells (x).toArray T))) :
    wpList Try.prog ops Q (⟨none, .store 29 (.tmp t) (.tmp t'), ty, ps, af, none⟩ :: rest) a (w.alloc (.cells old T)) := by
  subst hg
  refine ky_store hx hy (Blk.new w old T) (by simpa using hl) hv ?_
  rw [setAll_new w old _ T (by rw [hv.out.1, hl])]
  exact h
theorem key4_ok (x y o : Int) (u : Bool) : Hid ((key4 x y o u).length = 4 ∧ ∀ v ∈ key4 x y o u, v.oneCell' = true) := Lib.hid (by
  refine ⟨rfl, ?_⟩
  intro v hv
  simp only [key4, List.mem_cons, List.not_mem_nil, or_false] at hv
  rcases hv with h | h | h | h <;> subst h <;> rfl)
theorem ky_store4 {t t' g T : Nat} {ty : TypeId} {ps : String} {af : Array Edge} {a : Act} {w : World} {ops : Array Oper} {rest : List Oper} {Q : Exit → Act → World → Prop} {x y o : Int} {u : Bool} {old : List Value}
    (hx : a.eval (.tmp t) = .pointer (some ⟨g, 0, none⟩)) (hy : a.eval (.tmp t') = .agg #[.int .i64 x, .int .i64 y, .int .i64 o, .bool u]) (hb : Blk w g old T) (hl : old.length = 4) (h : wpList Try.prog ops Q rest (a.put none undef) (w.setCells g 0 (key4 x y o u))) :
    wpList Try.prog ops Q (⟨none, .store 29 (.tmp t) (.tmp t'), ty, ps, af, none⟩ :: rest) a w :=
  ky_store (x := key4 x y o u) hx hy hb hl (key4_ok x y o u) h
theorem id_store_new2 {t t' g T : Nat} {ty : TypeId} {ps : String} {af : Array Edge} {a : Act} {w : World} {ops : Array Oper} {rest : List Oper} {Q : Exit → Act → World → Prop} {x : List Int} {old : Array Value}
    (hx : a.eval (.tmp t) = .pointer (some ⟨g, 0, none⟩)) (hg : g = w.heap.size) (hy : a.eval (.tmp t') = .agg (ints x).toArray) (hl : old.size = 2) (hv : Hid (x.length = 2)) (h : wpList Try.prog ops Q rest (a.put none undef) (w.alloc (.cells (ints x).toArray T))) :
    wpList Try.prog ops Q (⟨none, .store 25 (.tmp t) (.tmp t'), ty, ps, af, none⟩ :: rest) a (w.alloc (.cells old T)) := id_store_new hx hg hy hl hv h
/-- a request's name as it is read. -/
def tkyN (s : List UInt8 × Bool) : Int := wrap64 (tkN (tkS (tkS s 1) 2) 1 : Int)
def tkyU (s : List UInt8 × Bool) : Nat := tkN (tkS (tkS (tkS s 1) 2) 1) 1
def tkyS (s : List UInt8 × Bool) : List UInt8 × Bool := tkS (tkS (tkS (tkS s 1) 2) 1) 1
def tkyL (s : List UInt8 × Bool) : List Value := key4 (wrap64 (tkN s 1 : Int)) (wrap64 (tkN (tkS s 1) 2 : Int)) (tkyN s) (decide ((tkyU s : Int) = 1))
set_option maxRecDepth 100000 in
set_option maxHeartbeats 4000000 in
theorem takekey_any {B g : Nat} {s : List UInt8 × Bool} {w : World} (h : RdS B w g s) (hB : B ≤ w.heap.size) :
    Calls Try.prog 32 #[.pointer (some ⟨g, 0, none⟩)] w fun e w' => e = .returned (.agg (tkyL s).toArray) ∧ RdS B w' g (tkyS s) ∧ w.grownBy w' (some g) := by
  have hgB : g < B := by obtain ⟨_, _, _, _, _, _, hh, _⟩ := h; exact hh
  have HR := Lib.hid (h.keep ((Below.refl w.heap.size w).alloc (Nat.le_refl _) (.cells #[.int .i64 0, .int .i64 0, .int .i64 0, .bool false] 29)))
  have HG := Lib.hid (grown_of ((Below.refl w.heap.size w).alloc (Nat.le_refl _) (.cells #[.int .i64 0, .int .i64 0, .int .i64 0, .bool false] 29)) (some g))
  have HC := Lib.hid (Blk.new w #[.int .i64 0, .int .i64 0, .int .i64 0, .bool false] 29)
  have hz : B ≤ (w.alloc (.cells #[.int .i64 0, .int .i64 0, .int .i64 0, .bool false] 29)).heap.size := by simp; omega
  clear h
  go_enter Try.func32, Try.ntmps32
  go_upto_region 1 with fail
  generalize w.alloc (.cells #[.int .i64 0, .int .i64 0, .int .i64 0, .bool false] 29) = W at *
  go_wp2_with fail
  refine (takeid_any HR.out hz).mono ?_
  rintro e w2 ⟨rfl, hr2, hg2⟩
  generalize hx1 : wrap64 (tkN s 1 : Int) = x1 at *
  generalize hx2 : wrap64 (tkN (tkS s 1) 2 : Int) = x2 at *
  have et : tidL s = [x1, x2] := by unfold tidL; rw [hx1, hx2]
  rw [et]
  have hw2 : w.heap.size < w2.heap.size := Nat.lt_of_lt_of_le HC.out.lt hg2.size
  have BN : Below w2.heap.size w2 (w2.alloc (.cells (ints [x1, x2]).toArray 25)) := (Below.refl w2.heap.size w2).alloc (Nat.le_refl _) _
  have HR2 := Lib.hid (hr2.keep BN)
  have HG2 := Lib.hid ((HG.out.trans hg2).trans (grown_of BN (some g)))
  have HC2 : Hid (Blk (w2.alloc (.cells (ints [x1, x2]).toArray 25)) w.heap.size _ 29) := Lib.hid ((HC.out.grown hg2 (by omega)).alloc _)
  have HI2 := Lib.hid (Blk.new w2 (ints [x1, x2]).toArray 25)
  have h2 : Hid (([x1, x2] : List Int).length = 2) := Lib.hid rfl
  clear hr2 hg2 HR HG HC hz BN et
  go_upto_region 2 with (first
    | ((with_reducible apply id_store_new2); (· rfl); (· first | rfl | simp); (· rfl); (· rfl); (· exact h2); (simp only [Act.put, List.setIfInBounds_toArray, List.set_cons_zero, List.set_cons_succ])))
  generalize w2.alloc (.cells (ints [x1, x2]).toArray 25) = w3 at *
  generalize w2.heap.size = gi at *
  go_wp2_with fail
  refine (rds_take HR2.out (k := 1) (by decide) (by decide) 1 rfl).mono ?_
  rintro e w4 ⟨rfl, hr4, hg4⟩
  have HR4 := Lib.hid hr4
  have HG4 := Lib.hid (HG2.out.trans hg4)
  have HC4 := Lib.hid (HC2.out.grown hg4 (by omega))
  have HI4 := Lib.hid (HI2.out.grown hg4 (by omega))
  clear hr4 hg4 HR2 HG2 HC2 HI2
  generalize hn3 : tkN (tkS (tkS s 1) 2) 1 = n3 at *
  generalize tkB (tkS (tkS s 1) 2) 1 = b3 at *
  go_wp2_with fail
  refine (rds_take HR4.out (k := 1) (by decide) (by decide) 1 rfl).mono ?_
  rintro e w5 ⟨rfl, hr5, hg5⟩
  have HR5 : Hid (RdS B w5 g (tkyS s)) := Lib.hid hr5
  have HG5 := Lib.hid (HG4.out.trans hg5)
  have HC5 := Lib.hid (HC4.out.grown hg5 (by omega))
  have HI5 := Lib.hid (HI4.out.grown hg5 (by omega))
  clear hr5 hg5 HR4 HG4 HC4 HI4
  generalize hn4 : tkN (tkS (tkS (tkS s 1) 2) 1) 1 = n4 at *
  generalize tkB (tkS (tkS (tkS s 1) 2) 1) 1 = b4 at *
  have HN := Lib.hid (show tkyL s = key4 x1 x2 (wrap64 (n3 : Int)) (decide ((n4 : Int) = 1)) by unfold tkyL tkyN tkyU; rw [hx1, hx2, hn3, hn4])
  clear hx1 hx2 hn3 hn4
  have c0 : w5.cell? ⟨gi, 0, none⟩ = some (.int .i64 x1) := HI5.out.cell 0
  have c1 : w5.cell? ⟨gi, 1, none⟩ = some (.int .i64 x2) := HI5.out.cell 1
  clear HI5
  have C5 := Lib.hid (HC5.out.setAll (key4 x1 x2 (wrap64 (n3 : Int)) (decide ((n4 : Int) = 1))) (key4_ok _ _ _ _).out.1)
  have R5 := Lib.hid (RdS.sets (gc := w.heap.size) hB (key4 x1 x2 (wrap64 (n3 : Int)) (decide ((n4 : Int) = 1))) 0 _ HR5.out)
  have G5 := Lib.hid (grown_sets (Nat.le_refl _) (key4 x1 x2 (wrap64 (n3 : Int)) (decide ((n4 : Int) = 1))) 0 _ HG5.out)
  go_wp2_with (first
    | ((with_reducible apply ky_store4); (· rfl); (· rfl); (· exact HC5.out); (· rfl); (simp only [Act.put, List.setIfInBounds_toArray, List.set_cons_zero, List.set_cons_succ]); (generalize w5.setCells w.heap.size 0 (key4 x1 x2 (wrap64 (n3 : Int)) (decide ((n4 : Int) = 1))) = WW at *)))
  refine ret_cell (p := 2) rfl rfl C5.out Try.underlying29 rfl (by rw [ky_size]; rfl) rfl ⟨by rw [HN.out], R5.out, G5.out⟩
end Go.Proofs.Ytfffbhkenggdcaa
