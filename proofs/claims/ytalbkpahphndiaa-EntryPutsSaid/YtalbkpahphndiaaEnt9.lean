/- Requests that were tried: the reference's. -/
import Derived.Test.YtalbkpahphndiaaEnt8
import Derived.Test.YtalbkpahphndiaaRow
import Derived.Test.YtalbkpahphndiaaOps
import Derived.RegionTactic
import Derived.BigRegion
import Derived.ChangeAlike
namespace Go.Proofs.Ytalbkpahphndiaa
set_option linter.unusedVariables false
set_option linter.unusedSimpArgs false
open Go.ChangeShapes Go.WideShapes Go.ChangeAt Go.RowKit
theorem er_size : (Try.prog.info? 52).map (·.size) = some 12 := by kernel_rfl
theorem er_load {d t g o : Nat} {ty : TypeId} {ps : String} {af : Array Edge} {a : Act} {w : World} {ops : Array Oper} {rest : List Oper} {Q : Exit → Act → World → Prop} {x : List Value}
    (hx : a.eval (.tmp t) = .pointer (some ⟨g, o, none⟩)) (hb : w.rangeAt g o (x)) (hv : Hid (x.length = 12 ∧ ∀ u ∈ x, u.oneCell' = true)) (h : wpList Try.prog ops Q rest (a.put (some d) (.agg (x).toArray)) w) :
    wpList Try.prog ops Q (⟨some d, .load 52 (.tmp t), ty, ps, af, none⟩ :: rest) a w :=
  ls_run rfl (run_op_load rfl hx hb Try.underlying52 rfl (by rw [er_size, hv.out.1])) h
theorem er_load_g {d t g o i : Nat} {b : Bool} {ty : TypeId} {ps : String} {af : Array Edge} {a : Act} {w : World} {ops : Array Oper} {rest : List Oper} {Q : Exit → Act → World → Prop} {x : List Value}
    (hx : a.eval (.tmp t) = .pointer (some ⟨g, o, none⟩)) (hw : Region.wanted ⟨some d, .load 52 (.tmp t), ty, ps, af, some (i, b)⟩ (yielded ops a.tmps) = true) (hb : w.rangeAt g o (x)) (hv : Hid (x.length = 12 ∧ ∀ u ∈ x, u.oneCell' = true)) (h : wpList Try.prog ops Q rest (a.put (some d) (.agg (x).toArray)) w) :
    wpList Try.prog ops Q (⟨some d, .load 52 (.tmp t), ty, ps, af, some (i, b)⟩ :: rest) a w :=
  ls_run_g hw (run_op_load rfl hx hb Try.underlying52 rfl (by rw [er_size, hv.out.1])) h
theorem er_load_st {d t g o : Nat} {gd : Option (Nat × Bool)} {ty : TypeId} {ps : String} {af : Array Edge} {a : Act} {w : World} {ops : Array Oper} {rest : List Oper} {R : Act → Prop} {x : List Value}
    (hx : a.eval (.tmp t) = .pointer (some ⟨g, o, none⟩)) (hw : Region.wanted ⟨some d, .load 52 (.tmp t), ty, ps, af, gd⟩ (yielded ops a.tmps) = true) (hb : w.rangeAt g o (x)) (hv : Hid (x.length = 12 ∧ ∀ u ∈ x, u.oneCell' = true)) (h : wpStill Try.prog ops w R rest (a.put (some d) (.agg (x).toArray))) :
    wpStill Try.prog ops w R (⟨some d, .load 52 (.tmp t), ty, ps, af, gd⟩ :: rest) a :=
  st_run hw (run_op_load rfl hx hb Try.underlying52 rfl (by rw [er_size, hv.out.1])) h
theorem er_store {t t' g T : Nat} {ty : TypeId} {ps : String} {af : Array Edge} {a : Act} {w : World} {ops : Array Oper} {rest : List Oper} {Q : Exit → Act → World → Prop} {x : List Value} {old : List Value}
    (hx : a.eval (.tmp t) = .pointer (some ⟨g, 0, none⟩)) (hy : a.eval (.tmp t') = .agg (x).toArray) (hb : Blk w g old T) (hl : old.length = 12) (hv : Hid (x.length = 12 ∧ ∀ u ∈ x, u.oneCell' = true)) (h : wpList Try.prog ops Q rest (a.put none undef) (w.setCells g 0 (x))) :
    wpList Try.prog ops Q (⟨none, .store 52 (.tmp t) (.tmp t'), ty, ps, af, none⟩ :: rest) a w :=
  wpList_store_mid rfl 52 (.tmp t) (.tmp t') rfl g 0 _ hx hy (hb.there 0 _ (by rw [List.size_toArray, hv.out.1, hl]; decide)) (by rw [er_size, List.size_toArray, hv.out.1]) (all_oneCell_toArray (fun u hu => hv.out.2 u hu)) (by rw [List.toList_toArray]; exact h)
theorem er_store_new {t t' g T : Nat} {ty : TypeId} {ps : String} {af : Array Edge} {a : Act} {w : World} {ops : Array Oper} {rest : List Oper} {Q : Exit → Act → World → Prop} {x : List Value} {old : Array Value}
    (hx : a.eval (.tmp t) = .pointer (some ⟨g, 0, none⟩)) (hg : g = w.heap.size) (hy : a.eval (.tmp t') = .agg (x).toArray) (hl : old.size = 12) (hv : Hid (x.length = 12 ∧ ∀ u ∈ x, u.oneCell' = true)) (h : wpList Try.prog ops Q rest (a.put none undef) (w.alloc (.cells (x).toArray T))) :
    wpList Try.prog ops Q (⟨none, .store 52 (.tmp t) (.tmp t'), ty, ps, af, none⟩ :: rest) a (w.alloc (.cells old T)) := by
  subst hg
  refine er_store hx hy (Blk.new w old T) (by simpa using hl) hv ?_
  rw [setAll_new w old _ T (by rw [hv.out.1, hl])]
  exact h
set_option maxRecDepth 100000 in
set_option maxHeartbeats 4000000 in
theorem rtries_any (o k a n p q s l : Int) (ak gn : Bool) (b bl : Int) (w : World) : Calls Try.prog 40 #[.agg #[.int .i64 o, .int .i64 k, .int .i64 a, .int .i64 n, .int .i64 p, .int .i64 q, .int .i64 s, .int .i64 l, .bool ak, .bool gn, .int .i64 b, .int .i64 bl]] w fun e w' => e = .returned (.int .i64 (if (ak && gn) = true then b else s)) ∧ Below w.heap.size w w' := by
  have HA : Hid (Blk (w.alloc (.cells #[.int .i64 o, .int .i64 k, .int .i64 a, .int .i64 n, .int .i64 p, .int .i64 q, .int .i64 s, .int .i64 l, .bool ak, .bool gn, .int .i64 b, .int .i64 bl] 52)) w.heap.size (enc12 o k a n p q s l ak gn b bl) 52) := Lib.hid (Blk.new w #[.int .i64 o, .int .i64 k, .int .i64 a, .int .i64 n, .int .i64 p, .int .i64 q, .int .i64 s, .int .i64 l, .bool ak, .bool gn, .int .i64 b, .int .i64 bl] 52)
  have HB := Lib.hid ((Below.refl w.heap.size w).alloc (Nat.le_refl _) (.cells #[.int .i64 o, .int .i64 k, .int .i64 a, .int .i64 n, .int .i64 p, .int .i64 q, .int .i64 s, .int .i64 l, .bool ak, .bool gn, .int .i64 b, .int .i64 bl] 52))
  have HV := enc12_ok o k a n p q s l ak gn b bl
  have CU := Lib.hid (fun w => show Calls Try.prog 27 #[.agg (enc12 o k a n p q s l ak gn b bl).toArray] w _ from rundoes_any o k a n p q s l ak gn b bl w)
  rcases hu : (ak && gn) with _ | _
  · rw [hu] at CU
    rw [show (if false = true then b else s) = s from rfl]
    clear hu
    go_enter Try.func40, Try.ntmps40
    go_upto_region 1 with fail
    generalize w.alloc (.cells #[.int .i64 o, .int .i64 k, .int .i64 a, .int .i64 n, .int .i64 p, .int .i64 q, .int .i64 s, .int .i64 l, .bool ak, .bool gn, .int .i64 b, .int .i64 bl] 52) = W at *
    have rx : W.rangeAt w.heap.size 0 (enc12 o k a n p q s l ak gn b bl) := HA.out.range 0 _ (by simp)
    go_wp2_with (first
      | ((with_reducible apply er_load); (· rfl); (· (first | assumption)); (· assumption); (simp only [Act.put, List.setIfInBounds_toArray, List.set_cons_zero, List.set_cons_succ])))
    refine (CU.out _).mono ?_
    rintro e w2 ⟨rfl, hb⟩
    have HB2 := Lib.hid (HB.out.trans (hb.mono HB.out.size))
    have HA2 := Lib.hid (HA.out.keep hb HA.out.lt)
    clear hb rx HB HA
    have d6 : w2.cell? ⟨w.heap.size, 6, none⟩ = some (.int .i64 s) := HA2.out.cell 6
    have d7 : w2.cell? ⟨w.heap.size, 7, none⟩ = some (.int .i64 l) := HA2.out.cell 7
    have d10 : w2.cell? ⟨w.heap.size, 10, none⟩ = some (.int .i64 b) := HA2.out.cell 10
    have d11 : w2.cell? ⟨w.heap.size, 11, none⟩ = some (.int .i64 bl) := HA2.out.cell 11
    go_wp2_with fail
    go_ret
    exact ⟨rfl, HB2.out⟩
  · rw [hu] at CU
    rw [show (if true = true then b else s) = b from rfl]
    clear hu
    go_enter Try.func40, Try.ntmps40
    go_upto_region 1 with fail
    generalize w.alloc (.cells #[.int .i64 o, .int .i64 k, .int .i64 a, .int .i64 n, .int .i64 p, .int .i64 q, .int .i64 s, .int .i64 l, .bool ak, .bool gn, .int .i64 b, .int .i64 bl] 52) = W at *
    have rx : W.rangeAt w.heap.size 0 (enc12 o k a n p q s l ak gn b bl) := HA.out.range 0 _ (by simp)
    go_wp2_with (first
      | ((with_reducible apply er_load); (· rfl); (· (first | assumption)); (· assumption); (simp only [Act.put, List.setIfInBounds_toArray, List.set_cons_zero, List.set_cons_succ])))
    refine (CU.out _).mono ?_
    rintro e w2 ⟨rfl, hb⟩
    have HB2 := Lib.hid (HB.out.trans (hb.mono HB.out.size))
    have HA2 := Lib.hid (HA.out.keep hb HA.out.lt)
    clear hb rx HB HA
    have d6 : w2.cell? ⟨w.heap.size, 6, none⟩ = some (.int .i64 s) := HA2.out.cell 6
    have d7 : w2.cell? ⟨w.heap.size, 7, none⟩ = some (.int .i64 l) := HA2.out.cell 7
    have d10 : w2.cell? ⟨w.heap.size, 10, none⟩ = some (.int .i64 b) := HA2.out.cell 10
    have d11 : w2.cell? ⟨w.heap.size, 11, none⟩ = some (.int .i64 bl) := HA2.out.cell 11
    go_wp2_with fail
    go_ret
    exact ⟨rfl, HB2.out⟩
set_option maxRecDepth 100000 in
set_option maxHeartbeats 4000000 in
theorem rduee_any (o k a n p q s l : Int) (ak gn : Bool) (b bl : Int) (r0 r1 mo ba ca : Int) (w : World) : Calls Try.prog 53 #[.agg #[.int .i64 o, .int .i64 k, .int .i64 a, .int .i64 n, .int .i64 p, .int .i64 q, .int .i64 s, .int .i64 l, .bool ak, .bool gn, .int .i64 b, .int .i64 bl], .agg #[.int .i64 r0, .int .i64 r1, .int .i64 mo, .int .i64 ba, .int .i64 ca]] w fun e w' => e = .returned (.int .i64 (dueI ba ca (if (ak && gn) = true then b else s) (if (ak && gn) = true then bl else l))) ∧ Below w.heap.size w w' := by
  have A1 := Blk.new w #[.int .i64 o, .int .i64 k, .int .i64 a, .int .i64 n, .int .i64 p, .int .i64 q, .int .i64 s, .int .i64 l, .bool ak, .bool gn, .int .i64 b, .int .i64 bl] 52
  have hz1 : (w.alloc (.cells #[.int .i64 o, .int .i64 k, .int .i64 a, .int .i64 n, .int .i64 p, .int .i64 q, .int .i64 s, .int .i64 l, .bool ak, .bool gn, .int .i64 b, .int .i64 bl] 52)).heap.size = w.heap.size + 1 := by simp
  have AC : Blk ((w.alloc (.cells #[.int .i64 o, .int .i64 k, .int .i64 a, .int .i64 n, .int .i64 p, .int .i64 q, .int .i64 s, .int .i64 l, .bool ak, .bool gn, .int .i64 b, .int .i64 bl] 52)).alloc (.cells #[.int .i64 r0, .int .i64 r1, .int .i64 mo, .int .i64 ba, .int .i64 ca] 51)) (w.heap.size + 1) [.int .i64 r0, .int .i64 r1, .int .i64 mo, .int .i64 ba, .int .i64 ca] 51 := hz1 ▸ Blk.new (w.alloc (.cells #[.int .i64 o, .int .i64 k, .int .i64 a, .int .i64 n, .int .i64 p, .int .i64 q, .int .i64 s, .int .i64 l, .bool ak, .bool gn, .int .i64 b, .int .i64 bl] 52)) #[.int .i64 r0, .int .i64 r1, .int .i64 mo, .int .i64 ba, .int .i64 ca] 51
  have HA : Hid (Blk ((w.alloc (.cells #[.int .i64 o, .int .i64 k, .int .i64 a, .int .i64 n, .int .i64 p, .int .i64 q, .int .i64 s, .int .i64 l, .bool ak, .bool gn, .int .i64 b, .int .i64 bl] 52)).alloc (.cells #[.int .i64 r0, .int .i64 r1, .int .i64 mo, .int .i64 ba, .int .i64 ca] 51)) w.heap.size (enc12 o k a n p q s l ak gn b bl) 52) := Lib.hid (A1.alloc _)
  have HC := Lib.hid AC
  have HB := Lib.hid ((((Below.refl w.heap.size w).alloc (Nat.le_refl _) (.cells #[.int .i64 o, .int .i64 k, .int .i64 a, .int .i64 n, .int .i64 p, .int .i64 q, .int .i64 s, .int .i64 l, .bool ak, .bool gn, .int .i64 b, .int .i64 bl] 52)).alloc (by rw [hz1]; omega) (.cells #[.int .i64 r0, .int .i64 r1, .int .i64 mo, .int .i64 ba, .int .i64 ca] 51)))
  have HV := enc12_ok o k a n p q s l ak gn b bl
  clear A1 AC hz1
  have CU := Lib.hid (fun w => show Calls Try.prog 27 #[.agg (enc12 o k a n p q s l ak gn b bl).toArray] w _ from rundoes_any o k a n p q s l ak gn b bl w)
  rcases hu : (ak && gn) with _ | _
  · rw [hu] at CU
    rw [show (if false = true then b else s) = s from rfl, show (if false = true then bl else l) = l from rfl]
    clear hu
    go_enter Try.func53, Try.ntmps53
    go_upto_region 1 with fail
    generalize ((w.alloc (.cells #[.int .i64 o, .int .i64 k, .int .i64 a, .int .i64 n, .int .i64 p, .int .i64 q, .int .i64 s, .int .i64 l, .bool ak, .bool gn, .int .i64 b, .int .i64 bl] 52)).alloc (.cells #[.int .i64 r0, .int .i64 r1, .int .i64 mo, .int .i64 ba, .int .i64 ca] 51)) = W at *
    have rx : W.rangeAt w.heap.size 0 (enc12 o k a n p q s l ak gn b bl) := HA.out.range 0 _ (by simp)
    have D := Lib.hid (fun w => rdue_any ba ca s l w)
    go_wp2_with (first
      | ((with_reducible apply er_load); (· rfl); (· (first | assumption)); (· assumption); (simp only [Act.put, List.setIfInBounds_toArray, List.set_cons_zero, List.set_cons_succ])))
    refine (CU.out _).mono ?_
    rintro e w2 ⟨rfl, hb⟩
    have HB2 := Lib.hid (HB.out.trans (hb.mono HB.out.size))
    have HA2 := Lib.hid (HA.out.keep hb HA.out.lt)
    have HC2 := Lib.hid (HC.out.keep hb HC.out.lt)
    clear hb rx HB HA HC
    have d6 : w2.cell? ⟨w.heap.size, 6, none⟩ = some (.int .i64 s) := HA2.out.cell 6
    have d7 : w2.cell? ⟨w.heap.size, 7, none⟩ = some (.int .i64 l) := HA2.out.cell 7
    have d10 : w2.cell? ⟨w.heap.size, 10, none⟩ = some (.int .i64 b) := HA2.out.cell 10
    have d11 : w2.cell? ⟨w.heap.size, 11, none⟩ = some (.int .i64 bl) := HA2.out.cell 11
    have c2 : w2.cell? ⟨w.heap.size + 1, 2, none⟩ = some (.int .i64 mo) := HC2.out.cell 2
    have c3 : w2.cell? ⟨w.heap.size + 1, 3, none⟩ = some (.int .i64 ba) := HC2.out.cell 3
    have c4 : w2.cell? ⟨w.heap.size + 1, 4, none⟩ = some (.int .i64 ca) := HC2.out.cell 4
    go_wp2_with fail
    refine (D.out _).mono ?_
    rintro e w3 ⟨rfl, rfl⟩
    go_wp2_with fail
    go_ret
    exact ⟨rfl, HB2.out⟩
  · rw [hu] at CU
    rw [show (if true = true then b else s) = b from rfl, show (if true = true then bl else l) = bl from rfl]
    clear hu
    go_enter Try.func53, Try.ntmps53
    go_upto_region 1 with fail
    generalize ((w.alloc (.cells #[.int .i64 o, .int .i64 k, .int .i64 a, .int .i64 n, .int .i64 p, .int .i64 q, .int .i64 s, .int .i64 l, .bool ak, .bool gn, .int .i64 b, .int .i64 bl] 52)).alloc (.cells #[.int .i64 r0, .int .i64 r1, .int .i64 mo, .int .i64 ba, .int .i64 ca] 51)) = W at *
    have rx : W.rangeAt w.heap.size 0 (enc12 o k a n p q s l ak gn b bl) := HA.out.range 0 _ (by simp)
    have D := Lib.hid (fun w => rdue_any ba ca b bl w)
    go_wp2_with (first
      | ((with_reducible apply er_load); (· rfl); (· (first | assumption)); (· assumption); (simp only [Act.put, List.setIfInBounds_toArray, List.set_cons_zero, List.set_cons_succ])))
    refine (CU.out _).mono ?_
    rintro e w2 ⟨rfl, hb⟩
    have HB2 := Lib.hid (HB.out.trans (hb.mono HB.out.size))
    have HA2 := Lib.hid (HA.out.keep hb HA.out.lt)
    have HC2 := Lib.hid (HC.out.keep hb HC.out.lt)
    clear hb rx HB HA HC
    have d6 : w2.cell? ⟨w.heap.size, 6, none⟩ = some (.int .i64 s) := HA2.out.cell 6
    have d7 : w2.cell? ⟨w.heap.size, 7, none⟩ = some (.int .i64 l) := HA2.out.cell 7
    have d10 : w2.cell? ⟨w.heap.size, 10, none⟩ = some (.int .i64 b) := HA2.out.cell 10
    have d11 : w2.cell? ⟨w.heap.size, 11, none⟩ = some (.int .i64 bl) := HA2.out.cell 11
    have c2 : w2.cell? ⟨w.heap.size + 1, 2, none⟩ = some (.int .i64 mo) := HC2.out.cell 2
    have c3 : w2.cell? ⟨w.heap.size + 1, 3, none⟩ = some (.int .i64 ba) := HC2.out.cell 3
    have c4 : w2.cell? ⟨w.heap.size + 1, 4, none⟩ = some (.int .i64 ca) := HC2.out.cell 4
    go_wp2_with fail
    refine (D.out _).mono ?_
    rintro e w3 ⟨rfl, rfl⟩
    go_wp2_with fail
    go_ret
    exact ⟨rfl, HB2.out⟩
set_option maxRecDepth 100000 in
set_option maxHeartbeats 8000000 in
theorem rready_any (o k a n p q s l : Int) (ak gn : Bool) (b bl : Int) (r0 r1 mo ba ca now : Int) (w : World) : Calls Try.prog 29 #[.agg #[.int .i64 o, .int .i64 k, .int .i64 a, .int .i64 n, .int .i64 p, .int .i64 q, .int .i64 s, .int .i64 l, .bool ak, .bool gn, .int .i64 b, .int .i64 bl], .agg #[.int .i64 r0, .int .i64 r1, .int .i64 mo, .int .i64 ba, .int .i64 ca], .int .i64 now] w fun e w' => e = .returned (.bool (readyE s l ak gn b bl mo ba ca now)) ∧ Below w.heap.size w w' := by
  have A1 := Blk.new w #[.int .i64 o, .int .i64 k, .int .i64 a, .int .i64 n, .int .i64 p, .int .i64 q, .int .i64 s, .int .i64 l, .bool ak, .bool gn, .int .i64 b, .int .i64 bl] 52
  have hz1 : (w.alloc (.cells #[.int .i64 o, .int .i64 k, .int .i64 a, .int .i64 n, .int .i64 p, .int .i64 q, .int .i64 s, .int .i64 l, .bool ak, .bool gn, .int .i64 b, .int .i64 bl] 52)).heap.size = w.heap.size + 1 := by simp
  have AC : Blk ((w.alloc (.cells #[.int .i64 o, .int .i64 k, .int .i64 a, .int .i64 n, .int .i64 p, .int .i64 q, .int .i64 s, .int .i64 l, .bool ak, .bool gn, .int .i64 b, .int .i64 bl] 52)).alloc (.cells #[.int .i64 r0, .int .i64 r1, .int .i64 mo, .int .i64 ba, .int .i64 ca] 51)) (w.heap.size + 1) [.int .i64 r0, .int .i64 r1, .int .i64 mo, .int .i64 ba, .int .i64 ca] 51 := hz1 ▸ Blk.new (w.alloc (.cells #[.int .i64 o, .int .i64 k, .int .i64 a, .int .i64 n, .int .i64 p, .int .i64 q, .int .i64 s, .int .i64 l, .bool ak, .bool gn, .int .i64 b, .int .i64 bl] 52)) #[.int .i64 r0, .int .i64 r1, .int .i64 mo, .int .i64 ba, .int .i64 ca] 51
  have HA : Hid (Blk ((w.alloc (.cells #[.int .i64 o, .int .i64 k, .int .i64 a, .int .i64 n, .int .i64 p, .int .i64 q, .int .i64 s, .int .i64 l, .bool ak, .bool gn, .int .i64 b, .int .i64 bl] 52)).alloc (.cells #[.int .i64 r0, .int .i64 r1, .int .i64 mo, .int .i64 ba, .int .i64 ca] 51)) w.heap.size (enc12 o k a n p q s l ak gn b bl) 52) := Lib.hid (A1.alloc _)
  have HC := Lib.hid AC
  have HB := Lib.hid ((((Below.refl w.heap.size w).alloc (Nat.le_refl _) (.cells #[.int .i64 o, .int .i64 k, .int .i64 a, .int .i64 n, .int .i64 p, .int .i64 q, .int .i64 s, .int .i64 l, .bool ak, .bool gn, .int .i64 b, .int .i64 bl] 52)).alloc (by rw [hz1]; omega) (.cells #[.int .i64 r0, .int .i64 r1, .int .i64 mo, .int .i64 ba, .int .i64 ca] 51)))
  have HV := enc12_ok o k a n p q s l ak gn b bl
  clear A1 AC hz1
  have CR := Lib.hid (fun w => show Calls Try.prog 40 #[.agg (enc12 o k a n p q s l ak gn b bl).toArray] w _ from rtries_any o k a n p q s l ak gn b bl w)
  have CO := Lib.hid (fun w => show Calls Try.prog 25 #[.agg (enc12 o k a n p q s l ak gn b bl).toArray] w _ from ropen_any o k a n p q s l ak gn b bl w)
  have CD := Lib.hid (fun w => show Calls Try.prog 53 #[.agg (enc12 o k a n p q s l ak gn b bl).toArray, .agg ([.int .i64 r0, .int .i64 r1, .int .i64 mo, .int .i64 ba, .int .i64 ca] : List Value).toArray] w _ from rduee_any o k a n p q s l ak gn b bl r0 r1 mo ba ca w)
  unfold readyE
  have hcl : decide (clampI (if (ak && gn) = true then b else s) 0 64 = 0) = decide ((if (ak && gn) = true then b else s) < 1) := by
    generalize (if (ak && gn) = true then b else s) = tn
    rw [decide_eq_decide]; unfold clampI; split <;> (try split) <;> omega
  unfold readyB; rw [hcl]; clear hcl
  generalize dueI ba ca (if (ak && gn) = true then b else s) (if (ak && gn) = true then bl else l) = du at *
  generalize (if (ak && gn) = true then b else s) = tn at *
  generalize (!ak || gn) = op at *
  go_enter Try.func29, Try.ntmps29
  go_upto_region 1 with fail
  generalize ((w.alloc (.cells #[.int .i64 o, .int .i64 k, .int .i64 a, .int .i64 n, .int .i64 p, .int .i64 q, .int .i64 s, .int .i64 l, .bool ak, .bool gn, .int .i64 b, .int .i64 bl] 52)).alloc (.cells #[.int .i64 r0, .int .i64 r1, .int .i64 mo, .int .i64 ba, .int .i64 ca] 51)) = W at *
  generalize enc12 o k a n p q s l ak gn b bl = X at *
  generalize hCC : ([.int .i64 r0, .int .i64 r1, .int .i64 mo, .int .i64 ba, .int .i64 ca] : List Value) = CC at *
  have HM : Hid (CC[2]? = some (.int .i64 mo)) := Lib.hid (by rw [← hCC]; rfl)
  have HI5 : Hid ((Try.prog.info? 51).map (·.size) = some CC.length) := Lib.hid (by rw [← hCC]; kernel_rfl)
  have HI12 : Hid ((Try.prog.info? 52).map (·.size) = some X.length) := Lib.hid (by rw [HV.out.1]; exact er_size)
  have hlt0 := Lib.hid HA.out.lt
  have hlt1 := Lib.hid HC.out.lt
  clear hCC
  cases op
  · skip
    refine q_begin (by kernel_rfl) (by kernel_rfl) ?_
    repeat (first
      | go_big_quiet_skip
      | ((with_reducible apply q_row); (· rfl); (· rfl); (· exact Try.underlying52); (· rfl); (· exact HA.out); (· exact hlt0.out); (· exact HI12.out); (simp only [Act.put, List.setIfInBounds_toArray, List.set_cons_zero, List.set_cons_succ]))
      | ((with_reducible apply q_row); (· rfl); (· rfl); (· exact Try.underlying51); (· rfl); (· exact HC.out); (· exact hlt1.out); (· exact HI5.out); (simp only [Act.put, List.setIfInBounds_toArray, List.set_cons_zero, List.set_cons_succ]))
      | ((with_reducible apply q_int); (· rfl); (· rfl); (· exact Try.underlying3); (· exact HC.out); (· exact hlt1.out); (· exact HM.out); (simp only [Act.put, List.setIfInBounds_toArray, List.set_cons_zero, List.set_cons_succ]))
      | ((with_reducible apply q_call 25 (.bool false)); (· rfl); (· exact Nat.le_refl _); (· intro w _; exact CO.out w); (· intro w; go_simp); (simp only [Act.put, List.setIfInBounds_toArray, List.set_cons_zero, List.set_cons_succ]))
      | ((with_reducible apply q_call 40 (.int .i64 tn)); (· rfl); (· exact Nat.le_refl _); (· intro w _; exact CR.out w); (· intro w; go_simp); (simp only [Act.put, List.setIfInBounds_toArray, List.set_cons_zero, List.set_cons_succ]))
      | ((with_reducible apply q_call 53 (.int .i64 du)); (· rfl); (· exact Nat.le_refl _); (· intro w _; exact CD.out w); (· intro w; go_simp); (simp only [Act.put, List.setIfInBounds_toArray, List.set_cons_zero, List.set_cons_succ]))
      | (go_big_quiet_want; go_big_quiet_op; (first | go_big_quiet_on | (apply Exists.intro; refine ⟨fun _ _ => rfl, ?_⟩; go_big_quiet_on))))
    refine q_end ?_
    intro w2 hb
    have HB2 := HB.out.trans (hb.mono HB.out.size)
    go_wp2_with fail
    go_ret
    exact ⟨by rfl, HB2⟩
  · by_cases hn : tn < mo
    · by_cases h1 : tn < 1
      · skip
        refine q_begin (by kernel_rfl) (by kernel_rfl) ?_
        repeat (first
          | go_big_quiet_skip
          | ((with_reducible apply q_row); (· rfl); (· rfl); (· exact Try.underlying52); (· rfl); (· exact HA.out); (· exact hlt0.out); (· exact HI12.out); (simp only [Act.put, List.setIfInBounds_toArray, List.set_cons_zero, List.set_cons_succ]))
          | ((with_reducible apply q_row); (· rfl); (· rfl); (· exact Try.underlying51); (· rfl); (· exact HC.out); (· exact hlt1.out); (· exact HI5.out); (simp only [Act.put, List.setIfInBounds_toArray, List.set_cons_zero, List.set_cons_succ]))
          | ((with_reducible apply q_int); (· rfl); (· rfl); (· exact Try.underlying3); (· exact HC.out); (· exact hlt1.out); (· exact HM.out); (simp only [Act.put, List.setIfInBounds_toArray, List.set_cons_zero, List.set_cons_succ]))
          | ((with_reducible apply q_call 25 (.bool true)); (· rfl); (· exact Nat.le_refl _); (· intro w _; exact CO.out w); (· intro w; go_simp); (simp only [Act.put, List.setIfInBounds_toArray, List.set_cons_zero, List.set_cons_succ]))
          | ((with_reducible apply q_call 40 (.int .i64 tn)); (· rfl); (· exact Nat.le_refl _); (· intro w _; exact CR.out w); (· intro w; go_simp); (simp only [Act.put, List.setIfInBounds_toArray, List.set_cons_zero, List.set_cons_succ]))
          | ((with_reducible apply q_call 53 (.int .i64 du)); (· rfl); (· exact Nat.le_refl _); (· intro w _; exact CD.out w); (· intro w; go_simp); (simp only [Act.put, List.setIfInBounds_toArray, List.set_cons_zero, List.set_cons_succ]))
          | (go_big_quiet_want; go_big_quiet_op; (first | go_big_quiet_on | (apply Exists.intro; refine ⟨fun _ _ => rfl, ?_⟩; go_big_quiet_on))))
        refine q_end ?_
        intro w2 hb
        have HB2 := HB.out.trans (hb.mono HB.out.size)
        go_wp2_with fail
        go_ret
        exact ⟨by simp [hn, h1]; try omega, HB2⟩
      · skip
        refine q_begin (by kernel_rfl) (by kernel_rfl) ?_
        repeat (first
          | go_big_quiet_skip
          | ((with_reducible apply q_row); (· rfl); (· rfl); (· exact Try.underlying52); (· rfl); (· exact HA.out); (· exact hlt0.out); (· exact HI12.out); (simp only [Act.put, List.setIfInBounds_toArray, List.set_cons_zero, List.set_cons_succ]))
          | ((with_reducible apply q_row); (· rfl); (· rfl); (· exact Try.underlying51); (· rfl); (· exact HC.out); (· exact hlt1.out); (· exact HI5.out); (simp only [Act.put, List.setIfInBounds_toArray, List.set_cons_zero, List.set_cons_succ]))
          | ((with_reducible apply q_int); (· rfl); (· rfl); (· exact Try.underlying3); (· exact HC.out); (· exact hlt1.out); (· exact HM.out); (simp only [Act.put, List.setIfInBounds_toArray, List.set_cons_zero, List.set_cons_succ]))
          | ((with_reducible apply q_call 25 (.bool true)); (· rfl); (· exact Nat.le_refl _); (· intro w _; exact CO.out w); (· intro w; go_simp); (simp only [Act.put, List.setIfInBounds_toArray, List.set_cons_zero, List.set_cons_succ]))
          | ((with_reducible apply q_call 40 (.int .i64 tn)); (· rfl); (· exact Nat.le_refl _); (· intro w _; exact CR.out w); (· intro w; go_simp); (simp only [Act.put, List.setIfInBounds_toArray, List.set_cons_zero, List.set_cons_succ]))
          | ((with_reducible apply q_call 53 (.int .i64 du)); (· rfl); (· exact Nat.le_refl _); (· intro w _; exact CD.out w); (· intro w; go_simp); (simp only [Act.put, List.setIfInBounds_toArray, List.set_cons_zero, List.set_cons_succ]))
          | (go_big_quiet_want; go_big_quiet_op; (first | go_big_quiet_on | (apply Exists.intro; refine ⟨fun _ _ => rfl, ?_⟩; go_big_quiet_on))))
        refine q_end ?_
        intro w2 hb
        have HB2 := HB.out.trans (hb.mono HB.out.size)
        go_wp2_with fail
        go_ret
        exact ⟨by simp [hn, h1]; try omega, HB2⟩
    · skip
      refine q_begin (by kernel_rfl) (by kernel_rfl) ?_
      repeat (first
        | go_big_quiet_skip
        | ((with_reducible apply q_row); (· rfl); (· rfl); (· exact Try.underlying52); (· rfl); (· exact HA.out); (· exact hlt0.out); (· exact HI12.out); (simp only [Act.put, List.setIfInBounds_toArray, List.set_cons_zero, List.set_cons_succ]))
        | ((with_reducible apply q_row); (· rfl); (· rfl); (· exact Try.underlying51); (· rfl); (· exact HC.out); (· exact hlt1.out); (· exact HI5.out); (simp only [Act.put, List.setIfInBounds_toArray, List.set_cons_zero, List.set_cons_succ]))
        | ((with_reducible apply q_int); (· rfl); (· rfl); (· exact Try.underlying3); (· exact HC.out); (· exact hlt1.out); (· exact HM.out); (simp only [Act.put, List.setIfInBounds_toArray, List.set_cons_zero, List.set_cons_succ]))
        | ((with_reducible apply q_call 25 (.bool true)); (· rfl); (· exact Nat.le_refl _); (· intro w _; exact CO.out w); (· intro w; go_simp); (simp only [Act.put, List.setIfInBounds_toArray, List.set_cons_zero, List.set_cons_succ]))
        | ((with_reducible apply q_call 40 (.int .i64 tn)); (· rfl); (· exact Nat.le_refl _); (· intro w _; exact CR.out w); (· intro w; go_simp); (simp only [Act.put, List.setIfInBounds_toArray, List.set_cons_zero, List.set_cons_succ]))
        | ((with_reducible apply q_call 53 (.int .i64 du)); (· rfl); (· exact Nat.le_refl _); (· intro w _; exact CD.out w); (· intro w; go_simp); (simp only [Act.put, List.setIfInBounds_toArray, List.set_cons_zero, List.set_cons_succ]))
        | (go_big_quiet_want; go_big_quiet_op; (first | go_big_quiet_on | (apply Exists.intro; refine ⟨fun _ _ => rfl, ?_⟩; go_big_quiet_on))))
      refine q_end ?_
      intro w2 hb
      have HB2 := HB.out.trans (hb.mono HB.out.size)
      go_wp2_with fail
      go_ret
      exact ⟨by simp [hn]; try omega, HB2⟩
set_option maxRecDepth 100000 in
set_option maxHeartbeats 8000000 in
theorem rdead_any (o k a n p q s l : Int) (ak gn : Bool) (b bl : Int) (r0 r1 mo ba ca now : Int) (w : World) : Calls Try.prog 31 #[.agg #[.int .i64 o, .int .i64 k, .int .i64 a, .int .i64 n, .int .i64 p, .int .i64 q, .int .i64 s, .int .i64 l, .bool ak, .bool gn, .int .i64 b, .int .i64 bl], .agg #[.int .i64 r0, .int .i64 r1, .int .i64 mo, .int .i64 ba, .int .i64 ca], .int .i64 now] w fun e w' => e = .returned (.bool (deadE s l ak gn b bl mo ba ca now)) ∧ Below w.heap.size w w' := by
  have A1 := Blk.new w #[.int .i64 o, .int .i64 k, .int .i64 a, .int .i64 n, .int .i64 p, .int .i64 q, .int .i64 s, .int .i64 l, .bool ak, .bool gn, .int .i64 b, .int .i64 bl] 52
  have hz1 : (w.alloc (.cells #[.int .i64 o, .int .i64 k, .int .i64 a, .int .i64 n, .int .i64 p, .int .i64 q, .int .i64 s, .int .i64 l, .bool ak, .bool gn, .int .i64 b, .int .i64 bl] 52)).heap.size = w.heap.size + 1 := by simp
  have AC : Blk ((w.alloc (.cells #[.int .i64 o, .int .i64 k, .int .i64 a, .int .i64 n, .int .i64 p, .int .i64 q, .int .i64 s, .int .i64 l, .bool ak, .bool gn, .int .i64 b, .int .i64 bl] 52)).alloc (.cells #[.int .i64 r0, .int .i64 r1, .int .i64 mo, .int .i64 ba, .int .i64 ca] 51)) (w.heap.size + 1) [.int .i64 r0, .int .i64 r1, .int .i64 mo, .int .i64 ba, .int .i64 ca] 51 := hz1 ▸ Blk.new (w.alloc (.cells #[.int .i64 o, .int .i64 k, .int .i64 a, .int .i64 n, .int .i64 p, .int .i64 q, .int .i64 s, .int .i64 l, .bool ak, .bool gn, .int .i64 b, .int .i64 bl] 52)) #[.int .i64 r0, .int .i64 r1, .int .i64 mo, .int .i64 ba, .int .i64 ca] 51
  have HA : Hid (Blk ((w.alloc (.cells #[.int .i64 o, .int .i64 k, .int .i64 a, .int .i64 n, .int .i64 p, .int .i64 q, .int .i64 s, .int .i64 l, .bool ak, .bool gn, .int .i64 b, .int .i64 bl] 52)).alloc (.cells #[.int .i64 r0, .int .i64 r1, .int .i64 mo, .int .i64 ba, .int .i64 ca] 51)) w.heap.size (enc12 o k a n p q s l ak gn b bl) 52) := Lib.hid (A1.alloc _)
  have HC := Lib.hid AC
  have HB := Lib.hid ((((Below.refl w.heap.size w).alloc (Nat.le_refl _) (.cells #[.int .i64 o, .int .i64 k, .int .i64 a, .int .i64 n, .int .i64 p, .int .i64 q, .int .i64 s, .int .i64 l, .bool ak, .bool gn, .int .i64 b, .int .i64 bl] 52)).alloc (by rw [hz1]; omega) (.cells #[.int .i64 r0, .int .i64 r1, .int .i64 mo, .int .i64 ba, .int .i64 ca] 51)))
  have HV := enc12_ok o k a n p q s l ak gn b bl
  clear A1 AC hz1
  have CR := Lib.hid (fun w => show Calls Try.prog 40 #[.agg (enc12 o k a n p q s l ak gn b bl).toArray] w _ from rtries_any o k a n p q s l ak gn b bl w)
  have CO := Lib.hid (fun w => show Calls Try.prog 25 #[.agg (enc12 o k a n p q s l ak gn b bl).toArray] w _ from ropen_any o k a n p q s l ak gn b bl w)
  have CD := Lib.hid (fun w => show Calls Try.prog 53 #[.agg (enc12 o k a n p q s l ak gn b bl).toArray, .agg ([.int .i64 r0, .int .i64 r1, .int .i64 mo, .int .i64 ba, .int .i64 ca] : List Value).toArray] w _ from rduee_any o k a n p q s l ak gn b bl r0 r1 mo ba ca w)
  unfold deadE
  have hcl : decide (clampI (if (ak && gn) = true then b else s) 0 64 = 0) = decide ((if (ak && gn) = true then b else s) < 1) := by
    generalize (if (ak && gn) = true then b else s) = tn
    rw [decide_eq_decide]; unfold clampI; split <;> (try split) <;> omega
  clear hcl
  generalize dueI ba ca (if (ak && gn) = true then b else s) (if (ak && gn) = true then bl else l) = du at *
  generalize (if (ak && gn) = true then b else s) = tn at *
  generalize (!ak || gn) = op at *
  go_enter Try.func31, Try.ntmps31
  go_upto_region 1 with fail
  generalize ((w.alloc (.cells #[.int .i64 o, .int .i64 k, .int .i64 a, .int .i64 n, .int .i64 p, .int .i64 q, .int .i64 s, .int .i64 l, .bool ak, .bool gn, .int .i64 b, .int .i64 bl] 52)).alloc (.cells #[.int .i64 r0, .int .i64 r1, .int .i64 mo, .int .i64 ba, .int .i64 ca] 51)) = W at *
  generalize enc12 o k a n p q s l ak gn b bl = X at *
  generalize hCC : ([.int .i64 r0, .int .i64 r1, .int .i64 mo, .int .i64 ba, .int .i64 ca] : List Value) = CC at *
  have HM : Hid (CC[2]? = some (.int .i64 mo)) := Lib.hid (by rw [← hCC]; rfl)
  have HI5 : Hid ((Try.prog.info? 51).map (·.size) = some CC.length) := Lib.hid (by rw [← hCC]; kernel_rfl)
  have HI12 : Hid ((Try.prog.info? 52).map (·.size) = some X.length) := Lib.hid (by rw [HV.out.1]; exact er_size)
  have hlt0 := Lib.hid HA.out.lt
  have hlt1 := Lib.hid HC.out.lt
  clear hCC
  cases op
  · skip
    refine q_begin (by kernel_rfl) (by kernel_rfl) ?_
    repeat (first
      | go_big_quiet_skip
      | ((with_reducible apply q_row); (· rfl); (· rfl); (· exact Try.underlying52); (· rfl); (· exact HA.out); (· exact hlt0.out); (· exact HI12.out); (simp only [Act.put, List.setIfInBounds_toArray, List.set_cons_zero, List.set_cons_succ]))
      | ((with_reducible apply q_row); (· rfl); (· rfl); (· exact Try.underlying51); (· rfl); (· exact HC.out); (· exact hlt1.out); (· exact HI5.out); (simp only [Act.put, List.setIfInBounds_toArray, List.set_cons_zero, List.set_cons_succ]))
      | ((with_reducible apply q_int); (· rfl); (· rfl); (· exact Try.underlying3); (· exact HC.out); (· exact hlt1.out); (· exact HM.out); (simp only [Act.put, List.setIfInBounds_toArray, List.set_cons_zero, List.set_cons_succ]))
      | ((with_reducible apply q_call 25 (.bool false)); (· rfl); (· exact Nat.le_refl _); (· intro w _; exact CO.out w); (· intro w; go_simp); (simp only [Act.put, List.setIfInBounds_toArray, List.set_cons_zero, List.set_cons_succ]))
      | ((with_reducible apply q_call 40 (.int .i64 tn)); (· rfl); (· exact Nat.le_refl _); (· intro w _; exact CR.out w); (· intro w; go_simp); (simp only [Act.put, List.setIfInBounds_toArray, List.set_cons_zero, List.set_cons_succ]))
      | ((with_reducible apply q_call 53 (.int .i64 du)); (· rfl); (· exact Nat.le_refl _); (· intro w _; exact CD.out w); (· intro w; go_simp); (simp only [Act.put, List.setIfInBounds_toArray, List.set_cons_zero, List.set_cons_succ]))
      | (go_big_quiet_want; go_big_quiet_op; (first | go_big_quiet_on | (apply Exists.intro; refine ⟨fun _ _ => rfl, ?_⟩; go_big_quiet_on))))
    refine q_end ?_
    intro w2 hb
    have HB2 := HB.out.trans (hb.mono HB.out.size)
    go_wp2_with fail
    go_ret
    exact ⟨by rfl, HB2⟩
  · by_cases hn : mo ≤ tn
    · skip
      refine q_begin (by kernel_rfl) (by kernel_rfl) ?_
      repeat (first
        | go_big_quiet_skip
        | ((with_reducible apply q_row); (· rfl); (· rfl); (· exact Try.underlying52); (· rfl); (· exact HA.out); (· exact hlt0.out); (· exact HI12.out); (simp only [Act.put, List.setIfInBounds_toArray, List.set_cons_zero, List.set_cons_succ]))
        | ((with_reducible apply q_row); (· rfl); (· rfl); (· exact Try.underlying51); (· rfl); (· exact HC.out); (· exact hlt1.out); (· exact HI5.out); (simp only [Act.put, List.setIfInBounds_toArray, List.set_cons_zero, List.set_cons_succ]))
        | ((with_reducible apply q_int); (· rfl); (· rfl); (· exact Try.underlying3); (· exact HC.out); (· exact hlt1.out); (· exact HM.out); (simp only [Act.put, List.setIfInBounds_toArray, List.set_cons_zero, List.set_cons_succ]))
        | ((with_reducible apply q_call 25 (.bool true)); (· rfl); (· exact Nat.le_refl _); (· intro w _; exact CO.out w); (· intro w; go_simp); (simp only [Act.put, List.setIfInBounds_toArray, List.set_cons_zero, List.set_cons_succ]))
        | ((with_reducible apply q_call 40 (.int .i64 tn)); (· rfl); (· exact Nat.le_refl _); (· intro w _; exact CR.out w); (· intro w; go_simp); (simp only [Act.put, List.setIfInBounds_toArray, List.set_cons_zero, List.set_cons_succ]))
        | ((with_reducible apply q_call 53 (.int .i64 du)); (· rfl); (· exact Nat.le_refl _); (· intro w _; exact CD.out w); (· intro w; go_simp); (simp only [Act.put, List.setIfInBounds_toArray, List.set_cons_zero, List.set_cons_succ]))
        | (go_big_quiet_want; go_big_quiet_op; (first | go_big_quiet_on | (apply Exists.intro; refine ⟨fun _ _ => rfl, ?_⟩; go_big_quiet_on))))
      refine q_end ?_
      intro w2 hb
      have HB2 := HB.out.trans (hb.mono HB.out.size)
      go_wp2_with fail
      go_ret
      exact ⟨by simp [hn]; try omega, HB2⟩
    · skip
      refine q_begin (by kernel_rfl) (by kernel_rfl) ?_
      repeat (first
        | go_big_quiet_skip
        | ((with_reducible apply q_row); (· rfl); (· rfl); (· exact Try.underlying52); (· rfl); (· exact HA.out); (· exact hlt0.out); (· exact HI12.out); (simp only [Act.put, List.setIfInBounds_toArray, List.set_cons_zero, List.set_cons_succ]))
        | ((with_reducible apply q_row); (· rfl); (· rfl); (· exact Try.underlying51); (· rfl); (· exact HC.out); (· exact hlt1.out); (· exact HI5.out); (simp only [Act.put, List.setIfInBounds_toArray, List.set_cons_zero, List.set_cons_succ]))
        | ((with_reducible apply q_int); (· rfl); (· rfl); (· exact Try.underlying3); (· exact HC.out); (· exact hlt1.out); (· exact HM.out); (simp only [Act.put, List.setIfInBounds_toArray, List.set_cons_zero, List.set_cons_succ]))
        | ((with_reducible apply q_call 25 (.bool true)); (· rfl); (· exact Nat.le_refl _); (· intro w _; exact CO.out w); (· intro w; go_simp); (simp only [Act.put, List.setIfInBounds_toArray, List.set_cons_zero, List.set_cons_succ]))
        | ((with_reducible apply q_call 40 (.int .i64 tn)); (· rfl); (· exact Nat.le_refl _); (· intro w _; exact CR.out w); (· intro w; go_simp); (simp only [Act.put, List.setIfInBounds_toArray, List.set_cons_zero, List.set_cons_succ]))
        | ((with_reducible apply q_call 53 (.int .i64 du)); (· rfl); (· exact Nat.le_refl _); (· intro w _; exact CD.out w); (· intro w; go_simp); (simp only [Act.put, List.setIfInBounds_toArray, List.set_cons_zero, List.set_cons_succ]))
        | (go_big_quiet_want; go_big_quiet_op; (first | go_big_quiet_on | (apply Exists.intro; refine ⟨fun _ _ => rfl, ?_⟩; go_big_quiet_on))))
      refine q_end ?_
      intro w2 hb
      have HB2 := HB.out.trans (hb.mono HB.out.size)
      go_wp2_with fail
      go_ret
      exact ⟨by simp [hn]; try omega, HB2⟩
end Go.Proofs.Ytalbkpahphndiaa
