/- Requests that were tried: their word. -/
import Derived.Test.YtalbkpahphndiaaEnt10
import Derived.Test.YtalbkpahphndiaaRow
import Derived.Test.YtalbkpahphndiaaOps
import Derived.RegionTactic
import Derived.BigRegion
import Derived.ChangeAlike
namespace Go.Proofs.Ytalbkpahphndiaa
set_option linter.unusedVariables false
set_option linter.unusedSimpArgs false
open Go.ChangeShapes Go.WideShapes Go.ChangeAt Go.RowKit
theorem cf_size : (Try.prog.info? 51).map (·.size) = some 5 := by kernel_rfl
theorem cf_load {d t g o : Nat} {ty : TypeId} {ps : String} {af : Array Edge} {a : Act} {w : World} {ops : Array Oper} {rest : List Oper} {Q : Exit → Act → World → Prop} {x : List Int}
    (hx : a.eval (.tmp t) = .pointer (some ⟨g, o, none⟩)) (hb : w.rangeAt g o (ints x)) (hv : Hid (x.length = 5)) (h : wpList Try.prog ops Q rest (a.put (some d) (.agg (ints x).toArray)) w) :
    wpList Try.prog ops Q (⟨some d, .load 51 (.tmp t), ty, ps, af, none⟩ :: rest) a w :=
  ls_run rfl (run_op_load rfl hx hb Try.underlying51 rfl (by rw [cf_size, ints_len, hv.out])) h
theorem cf_load_g {d t g o i : Nat} {b : Bool} {ty : TypeId} {ps : String} {af : Array Edge} {a : Act} {w : World} {ops : Array Oper} {rest : List Oper} {Q : Exit → Act → World → Prop} {x : List Int}
    (hx : a.eval (.tmp t) = .pointer (some ⟨g, o, none⟩)) (hw : Region.wanted ⟨some d, .load 51 (.tmp t), ty, ps, af, some (i, b)⟩ (yielded ops a.tmps) = true) (hb : w.rangeAt g o (ints x)) (hv : Hid (x.length = 5)) (h : wpList Try.prog ops Q rest (a.put (some d) (.agg (ints x).toArray)) w) :
    wpList Try.prog ops Q (⟨some d, .load 51 (.tmp t), ty, ps, af, some (i, b)⟩ :: rest) a w :=
  ls_run_g hw (run_op_load rfl hx hb Try.underlying51 rfl (by rw [cf_size, ints_len, hv.out])) h
theorem cf_load_st {d t g o : Nat} {gd : Option (Nat × Bool)} {ty : TypeId} {ps : String} {af : Array Edge} {a : Act} {w : World} {ops : Array Oper} {rest : List Oper} {R : Act → Prop} {x : List Int}
    (hx : a.eval (.tmp t) = .pointer (some ⟨g, o, none⟩)) (hw : Region.wanted ⟨some d, .load 51 (.tmp t), ty, ps, af, gd⟩ (yielded ops a.tmps) = true) (hb : w.rangeAt g o (ints x)) (hv : Hid (x.length = 5)) (h : wpStill Try.prog ops w R rest (a.put (some d) (.agg (ints x).toArray))) :
    wpStill Try.prog ops w R (⟨some d, .load 51 (.tmp t), ty, ps, af, gd⟩ :: rest) a :=
  st_run hw (run_op_load rfl hx hb Try.underlying51 rfl (by rw [cf_size, ints_len, hv.out])) h
theorem cf_store {t t' g T : Nat} {ty : TypeId} {ps : String} {af : Array Edge} {a : Act} {w : World} {ops : Array Oper} {rest : List Oper} {Q : Exit → Act → World → Prop} {x : List Int} {old : List Value}
    (hx : a.eval (.tmp t) = .pointer (some ⟨g, 0, none⟩)) (hy : a.eval (.tmp t') = .agg (ints x).toArray) (hb : Blk w g old T) (hl : old.length = 5) (hv : Hid (x.length = 5)) (h : wpList Try.prog ops Q rest (a.put none undef) (w.setCells g 0 (ints x))) :
    wpList Try.prog ops Q (⟨none, .store 51 (.tmp t) (.tmp t'), ty, ps, af, none⟩ :: rest) a w :=
  wpList_store_mid rfl 51 (.tmp t) (.tmp t') rfl g 0 _ hx hy (hb.there 0 _ (by rw [List.size_toArray, ints_len, hv.out, hl]; decide)) (by rw [cf_size, List.size_toArray, ints_len, hv.out]) (all_oneCell_toArray (fun u hu => ints_one hu)) (by rw [List.toList_toArray]; exact h)
theorem cf_store_new {t t' g T : Nat} {ty : TypeId} {ps : String} {af : Array Edge} {a : Act} {w : World} {ops : Array Oper} {rest : List Oper} {Q : Exit → Act → World → Prop} {x : List Int} {old : Array Value}
    (hx : a.eval (.tmp t) = .pointer (some ⟨g, 0, none⟩)) (hg : g = w.heap.size) (hy : a.eval (.tmp t') = .agg (ints x).toArray) (hl : old.size = 5) (hv : Hid (x.length = 5)) (h : wpList Try.prog ops Q rest (a.put none undef) (w.alloc (.cells (ints x).toArray T))) :
    wpList Try.prog ops Q (⟨none, .store 51 (.tmp t) (.tmp t'), ty, ps, af, none⟩ :: rest) a (w.alloc (.cells old T)) := by
  subst hg
  refine cf_store hx hy (Blk.new w old T) (by simpa using hl) hv ?_
  rw [setAll_new w old _ T (by rw [ints_len, hv.out, hl])]
  exact h
/-- an entry's word. -/
def wordE (d ak gn : Bool) : Value := .string ⟨(if ak && gn then #[117, 110, 100, 111, 105, 110, 103] else if ak then #[100, 111, 110, 101] else if gn then #[103, 111, 110, 101] else #[115, 101, 110, 116]) ++ (if d then #[32, 100, 101, 97, 100] else #[])⟩
set_option maxRecDepth 100000 in
set_option maxHeartbeats 8000000 in
theorem nword_any (o k a n p q s l : Int) (ak gn : Bool) (b bl : Int) (r0 r1 mo ba ca now : Int) (w : World) : Calls Try.prog 34 #[.agg #[.int .i64 o, .int .i64 k, .int .i64 a, .int .i64 n, .int .i64 p, .int .i64 q, .int .i64 s, .int .i64 l, .bool ak, .bool gn, .int .i64 b, .int .i64 bl], .agg #[.int .i64 r0, .int .i64 r1, .int .i64 mo, .int .i64 ba, .int .i64 ca], .int .i64 now] w fun e w' => e = .returned (wordE (deadE s l ak gn b bl mo ba ca now) ak gn) ∧ Below w.heap.size w w' := by
  have A1 := Blk.new w #[.int .i64 o, .int .i64 k, .int .i64 a, .int .i64 n, .int .i64 p, .int .i64 q, .int .i64 s, .int .i64 l, .bool ak, .bool gn, .int .i64 b, .int .i64 bl] 49
  have hz1 : (w.alloc (.cells #[.int .i64 o, .int .i64 k, .int .i64 a, .int .i64 n, .int .i64 p, .int .i64 q, .int .i64 s, .int .i64 l, .bool ak, .bool gn, .int .i64 b, .int .i64 bl] 49)).heap.size = w.heap.size + 1 := by simp
  have AC : Blk ((w.alloc (.cells #[.int .i64 o, .int .i64 k, .int .i64 a, .int .i64 n, .int .i64 p, .int .i64 q, .int .i64 s, .int .i64 l, .bool ak, .bool gn, .int .i64 b, .int .i64 bl] 49)).alloc (.cells #[.int .i64 r0, .int .i64 r1, .int .i64 mo, .int .i64 ba, .int .i64 ca] 51)) (w.heap.size + 1) [.int .i64 r0, .int .i64 r1, .int .i64 mo, .int .i64 ba, .int .i64 ca] 51 := hz1 ▸ Blk.new (w.alloc (.cells #[.int .i64 o, .int .i64 k, .int .i64 a, .int .i64 n, .int .i64 p, .int .i64 q, .int .i64 s, .int .i64 l, .bool ak, .bool gn, .int .i64 b, .int .i64 bl] 49)) #[.int .i64 r0, .int .i64 r1, .int .i64 mo, .int .i64 ba, .int .i64 ca] 51
  have HA : Hid (Blk ((w.alloc (.cells #[.int .i64 o, .int .i64 k, .int .i64 a, .int .i64 n, .int .i64 p, .int .i64 q, .int .i64 s, .int .i64 l, .bool ak, .bool gn, .int .i64 b, .int .i64 bl] 49)).alloc (.cells #[.int .i64 r0, .int .i64 r1, .int .i64 mo, .int .i64 ba, .int .i64 ca] 51)) w.heap.size (enc12 o k a n p q s l ak gn b bl) 49) := Lib.hid (A1.alloc _)
  have HC := Lib.hid AC
  have HB := Lib.hid ((((Below.refl w.heap.size w).alloc (Nat.le_refl _) (.cells #[.int .i64 o, .int .i64 k, .int .i64 a, .int .i64 n, .int .i64 p, .int .i64 q, .int .i64 s, .int .i64 l, .bool ak, .bool gn, .int .i64 b, .int .i64 bl] 49)).alloc (by rw [hz1]; omega) (.cells #[.int .i64 r0, .int .i64 r1, .int .i64 mo, .int .i64 ba, .int .i64 ca] 51)))
  have HV := enc12_ok o k a n p q s l ak gn b bl
  clear A1 AC hz1
  have CD := Lib.hid (fun w => show Calls Try.prog 30 #[.agg (enc12 o k a n p q s l ak gn b bl).toArray, .agg (ints [r0, r1, mo, ba, ca]).toArray, .int .i64 now] w _ from ndead_any o k a n p q s l ak gn b bl r0 r1 mo ba ca now w)
  have CU := Lib.hid (fun w => show Calls Try.prog 26 #[.agg (enc12 o k a n p q s l ak gn b bl).toArray] w _ from undoes_any o k a n p q s l ak gn b bl w)
  generalize deadE s l ak gn b bl mo ba ca now = d at *
  cases ak <;> cases gn <;> cases d
  · go_enter Try.func34, Try.ntmps34
    go_upto_region 2 with fail
    generalize ((w.alloc (.cells #[.int .i64 o, .int .i64 k, .int .i64 a, .int .i64 n, .int .i64 p, .int .i64 q, .int .i64 s, .int .i64 l, .bool false, .bool false, .int .i64 b, .int .i64 bl] 49)).alloc (.cells #[.int .i64 r0, .int .i64 r1, .int .i64 mo, .int .i64 ba, .int .i64 ca] 51)) = W at *
    have CU' : Hid (∀ w, Calls Try.prog 26 #[.agg (enc12 o k a n p q s l false false b bl).toArray] w fun e w' => e = .returned (.bool false) ∧ Below w.heap.size w w') := Lib.hid (fun w => CU.out w)
    clear CU
    have rx : W.rangeAt w.heap.size 0 (enc12 o k a n p q s l false false b bl) := HA.out.range 0 _ (by simp)
    have ry : W.rangeAt (w.heap.size + 1) 0 (ints [r0, r1, mo, ba, ca]) := HC.out.range 0 _ rfl
    go_wp2_with (first | ((with_reducible apply en_load); (· rfl); (· (first | assumption)); (· assumption); (simp only [Act.put, List.setIfInBounds_toArray, List.set_cons_zero, List.set_cons_succ])) | ((with_reducible apply cf_load); (· rfl); (· (first | assumption)); (· (exact Lib.hid rfl)); (simp only [Act.put, List.setIfInBounds_toArray, List.set_cons_zero, List.set_cons_succ])))
    refine (CU'.out _).mono ?_
    rintro e w1 ⟨rfl, hb⟩
    have HB1 := Lib.hid (HB.out.trans (hb.mono HB.out.size))
    have HA1 := Lib.hid (HA.out.keep hb HA.out.lt)
    have HC1 := Lib.hid (HC.out.keep hb HC.out.lt)
    clear hb rx ry HA HB HC
    have rx : w1.rangeAt w.heap.size 0 (enc12 o k a n p q s l false false b bl) := HA1.out.range 0 _ (by simp)
    have ry : w1.rangeAt (w.heap.size + 1) 0 (ints [r0, r1, mo, ba, ca]) := HC1.out.range 0 _ rfl
    have d8 : w1.cell? ⟨w.heap.size, 8, none⟩ = some (.bool false) := HA1.out.cell 8
    have d9 : w1.cell? ⟨w.heap.size, 9, none⟩ = some (.bool false) := HA1.out.cell 9
    go_wp2_with (first | ((with_reducible apply en_load); (· rfl); (· (first | assumption)); (· assumption); (simp only [Act.put, List.setIfInBounds_toArray, List.set_cons_zero, List.set_cons_succ])) | ((with_reducible apply cf_load); (· rfl); (· (first | assumption)); (· (exact Lib.hid rfl)); (simp only [Act.put, List.setIfInBounds_toArray, List.set_cons_zero, List.set_cons_succ])))
    refine (CD.out _).mono ?_
    rintro e w2 ⟨rfl, hb⟩
    have HB2 := Lib.hid (HB1.out.trans (hb.mono HB1.out.size))
    clear hb rx ry d8 d9
    go_wp2_with fail
    go_ret
    exact ⟨rfl, HB2.out⟩
  · go_enter Try.func34, Try.ntmps34
    go_upto_region 2 with fail
    generalize ((w.alloc (.cells #[.int .i64 o, .int .i64 k, .int .i64 a, .int .i64 n, .int .i64 p, .int .i64 q, .int .i64 s, .int .i64 l, .bool false, .bool false, .int .i64 b, .int .i64 bl] 49)).alloc (.cells #[.int .i64 r0, .int .i64 r1, .int .i64 mo, .int .i64 ba, .int .i64 ca] 51)) = W at *
    have CU' : Hid (∀ w, Calls Try.prog 26 #[.agg (enc12 o k a n p q s l false false b bl).toArray] w fun e w' => e = .returned (.bool false) ∧ Below w.heap.size w w') := Lib.hid (fun w => CU.out w)
    clear CU
    have rx : W.rangeAt w.heap.size 0 (enc12 o k a n p q s l false false b bl) := HA.out.range 0 _ (by simp)
    have ry : W.rangeAt (w.heap.size + 1) 0 (ints [r0, r1, mo, ba, ca]) := HC.out.range 0 _ rfl
    go_wp2_with (first | ((with_reducible apply en_load); (· rfl); (· (first | assumption)); (· assumption); (simp only [Act.put, List.setIfInBounds_toArray, List.set_cons_zero, List.set_cons_succ])) | ((with_reducible apply cf_load); (· rfl); (· (first | assumption)); (· (exact Lib.hid rfl)); (simp only [Act.put, List.setIfInBounds_toArray, List.set_cons_zero, List.set_cons_succ])))
    refine (CU'.out _).mono ?_
    rintro e w1 ⟨rfl, hb⟩
    have HB1 := Lib.hid (HB.out.trans (hb.mono HB.out.size))
    have HA1 := Lib.hid (HA.out.keep hb HA.out.lt)
    have HC1 := Lib.hid (HC.out.keep hb HC.out.lt)
    clear hb rx ry HA HB HC
    have rx : w1.rangeAt w.heap.size 0 (enc12 o k a n p q s l false false b bl) := HA1.out.range 0 _ (by simp)
    have ry : w1.rangeAt (w.heap.size + 1) 0 (ints [r0, r1, mo, ba, ca]) := HC1.out.range 0 _ rfl
    have d8 : w1.cell? ⟨w.heap.size, 8, none⟩ = some (.bool false) := HA1.out.cell 8
    have d9 : w1.cell? ⟨w.heap.size, 9, none⟩ = some (.bool false) := HA1.out.cell 9
    go_wp2_with (first | ((with_reducible apply en_load); (· rfl); (· (first | assumption)); (· assumption); (simp only [Act.put, List.setIfInBounds_toArray, List.set_cons_zero, List.set_cons_succ])) | ((with_reducible apply cf_load); (· rfl); (· (first | assumption)); (· (exact Lib.hid rfl)); (simp only [Act.put, List.setIfInBounds_toArray, List.set_cons_zero, List.set_cons_succ])))
    refine (CD.out _).mono ?_
    rintro e w2 ⟨rfl, hb⟩
    have HB2 := Lib.hid (HB1.out.trans (hb.mono HB1.out.size))
    clear hb rx ry d8 d9
    go_wp2_with fail
    go_ret
    exact ⟨rfl, HB2.out⟩
  · go_enter Try.func34, Try.ntmps34
    go_upto_region 2 with fail
    generalize ((w.alloc (.cells #[.int .i64 o, .int .i64 k, .int .i64 a, .int .i64 n, .int .i64 p, .int .i64 q, .int .i64 s, .int .i64 l, .bool false, .bool true, .int .i64 b, .int .i64 bl] 49)).alloc (.cells #[.int .i64 r0, .int .i64 r1, .int .i64 mo, .int .i64 ba, .int .i64 ca] 51)) = W at *
    have CU' : Hid (∀ w, Calls Try.prog 26 #[.agg (enc12 o k a n p q s l false true b bl).toArray] w fun e w' => e = .returned (.bool false) ∧ Below w.heap.size w w') := Lib.hid (fun w => CU.out w)
    clear CU
    have rx : W.rangeAt w.heap.size 0 (enc12 o k a n p q s l false true b bl) := HA.out.range 0 _ (by simp)
    have ry : W.rangeAt (w.heap.size + 1) 0 (ints [r0, r1, mo, ba, ca]) := HC.out.range 0 _ rfl
    go_wp2_with (first | ((with_reducible apply en_load); (· rfl); (· (first | assumption)); (· assumption); (simp only [Act.put, List.setIfInBounds_toArray, List.set_cons_zero, List.set_cons_succ])) | ((with_reducible apply cf_load); (· rfl); (· (first | assumption)); (· (exact Lib.hid rfl)); (simp only [Act.put, List.setIfInBounds_toArray, List.set_cons_zero, List.set_cons_succ])))
    refine (CU'.out _).mono ?_
    rintro e w1 ⟨rfl, hb⟩
    have HB1 := Lib.hid (HB.out.trans (hb.mono HB.out.size))
    have HA1 := Lib.hid (HA.out.keep hb HA.out.lt)
    have HC1 := Lib.hid (HC.out.keep hb HC.out.lt)
    clear hb rx ry HA HB HC
    have rx : w1.rangeAt w.heap.size 0 (enc12 o k a n p q s l false true b bl) := HA1.out.range 0 _ (by simp)
    have ry : w1.rangeAt (w.heap.size + 1) 0 (ints [r0, r1, mo, ba, ca]) := HC1.out.range 0 _ rfl
    have d8 : w1.cell? ⟨w.heap.size, 8, none⟩ = some (.bool false) := HA1.out.cell 8
    have d9 : w1.cell? ⟨w.heap.size, 9, none⟩ = some (.bool true) := HA1.out.cell 9
    go_wp2_with (first | ((with_reducible apply en_load); (· rfl); (· (first | assumption)); (· assumption); (simp only [Act.put, List.setIfInBounds_toArray, List.set_cons_zero, List.set_cons_succ])) | ((with_reducible apply cf_load); (· rfl); (· (first | assumption)); (· (exact Lib.hid rfl)); (simp only [Act.put, List.setIfInBounds_toArray, List.set_cons_zero, List.set_cons_succ])))
    refine (CD.out _).mono ?_
    rintro e w2 ⟨rfl, hb⟩
    have HB2 := Lib.hid (HB1.out.trans (hb.mono HB1.out.size))
    clear hb rx ry d8 d9
    go_wp2_with fail
    go_ret
    exact ⟨rfl, HB2.out⟩
  · go_enter Try.func34, Try.ntmps34
    go_upto_region 2 with fail
    generalize ((w.alloc (.cells #[.int .i64 o, .int .i64 k, .int .i64 a, .int .i64 n, .int .i64 p, .int .i64 q, .int .i64 s, .int .i64 l, .bool false, .bool true, .int .i64 b, .int .i64 bl] 49)).alloc (.cells #[.int .i64 r0, .int .i64 r1, .int .i64 mo, .int .i64 ba, .int .i64 ca] 51)) = W at *
    have CU' : Hid (∀ w, Calls Try.prog 26 #[.agg (enc12 o k a n p q s l false true b bl).toArray] w fun e w' => e = .returned (.bool false) ∧ Below w.heap.size w w') := Lib.hid (fun w => CU.out w)
    clear CU
    have rx : W.rangeAt w.heap.size 0 (enc12 o k a n p q s l false true b bl) := HA.out.range 0 _ (by simp)
    have ry : W.rangeAt (w.heap.size + 1) 0 (ints [r0, r1, mo, ba, ca]) := HC.out.range 0 _ rfl
    go_wp2_with (first | ((with_reducible apply en_load); (· rfl); (· (first | assumption)); (· assumption); (simp only [Act.put, List.setIfInBounds_toArray, List.set_cons_zero, List.set_cons_succ])) | ((with_reducible apply cf_load); (· rfl); (· (first | assumption)); (· (exact Lib.hid rfl)); (simp only [Act.put, List.setIfInBounds_toArray, List.set_cons_zero, List.set_cons_succ])))
    refine (CU'.out _).mono ?_
    rintro e w1 ⟨rfl, hb⟩
    have HB1 := Lib.hid (HB.out.trans (hb.mono HB.out.size))
    have HA1 := Lib.hid (HA.out.keep hb HA.out.lt)
    have HC1 := Lib.hid (HC.out.keep hb HC.out.lt)
    clear hb rx ry HA HB HC
    have rx : w1.rangeAt w.heap.size 0 (enc12 o k a n p q s l false true b bl) := HA1.out.range 0 _ (by simp)
    have ry : w1.rangeAt (w.heap.size + 1) 0 (ints [r0, r1, mo, ba, ca]) := HC1.out.range 0 _ rfl
    have d8 : w1.cell? ⟨w.heap.size, 8, none⟩ = some (.bool false) := HA1.out.cell 8
    have d9 : w1.cell? ⟨w.heap.size, 9, none⟩ = some (.bool true) := HA1.out.cell 9
    go_wp2_with (first | ((with_reducible apply en_load); (· rfl); (· (first | assumption)); (· assumption); (simp only [Act.put, List.setIfInBounds_toArray, List.set_cons_zero, List.set_cons_succ])) | ((with_reducible apply cf_load); (· rfl); (· (first | assumption)); (· (exact Lib.hid rfl)); (simp only [Act.put, List.setIfInBounds_toArray, List.set_cons_zero, List.set_cons_succ])))
    refine (CD.out _).mono ?_
    rintro e w2 ⟨rfl, hb⟩
    have HB2 := Lib.hid (HB1.out.trans (hb.mono HB1.out.size))
    clear hb rx ry d8 d9
    go_wp2_with fail
    go_ret
    exact ⟨rfl, HB2.out⟩
  · go_enter Try.func34, Try.ntmps34
    go_upto_region 2 with fail
    generalize ((w.alloc (.cells #[.int .i64 o, .int .i64 k, .int .i64 a, .int .i64 n, .int .i64 p, .int .i64 q, .int .i64 s, .int .i64 l, .bool true, .bool false, .int .i64 b, .int .i64 bl] 49)).alloc (.cells #[.int .i64 r0, .int .i64 r1, .int .i64 mo, .int .i64 ba, .int .i64 ca] 51)) = W at *
    have CU' : Hid (∀ w, Calls Try.prog 26 #[.agg (enc12 o k a n p q s l true false b bl).toArray] w fun e w' => e = .returned (.bool false) ∧ Below w.heap.size w w') := Lib.hid (fun w => CU.out w)
    clear CU
    have rx : W.rangeAt w.heap.size 0 (enc12 o k a n p q s l true false b bl) := HA.out.range 0 _ (by simp)
    have ry : W.rangeAt (w.heap.size + 1) 0 (ints [r0, r1, mo, ba, ca]) := HC.out.range 0 _ rfl
    go_wp2_with (first | ((with_reducible apply en_load); (· rfl); (· (first | assumption)); (· assumption); (simp only [Act.put, List.setIfInBounds_toArray, List.set_cons_zero, List.set_cons_succ])) | ((with_reducible apply cf_load); (· rfl); (· (first | assumption)); (· (exact Lib.hid rfl)); (simp only [Act.put, List.setIfInBounds_toArray, List.set_cons_zero, List.set_cons_succ])))
    refine (CU'.out _).mono ?_
    rintro e w1 ⟨rfl, hb⟩
    have HB1 := Lib.hid (HB.out.trans (hb.mono HB.out.size))
    have HA1 := Lib.hid (HA.out.keep hb HA.out.lt)
    have HC1 := Lib.hid (HC.out.keep hb HC.out.lt)
    clear hb rx ry HA HB HC
    have rx : w1.rangeAt w.heap.size 0 (enc12 o k a n p q s l true false b bl) := HA1.out.range 0 _ (by simp)
    have ry : w1.rangeAt (w.heap.size + 1) 0 (ints [r0, r1, mo, ba, ca]) := HC1.out.range 0 _ rfl
    have d8 : w1.cell? ⟨w.heap.size, 8, none⟩ = some (.bool true) := HA1.out.cell 8
    have d9 : w1.cell? ⟨w.heap.size, 9, none⟩ = some (.bool false) := HA1.out.cell 9
    go_wp2_with (first | ((with_reducible apply en_load); (· rfl); (· (first | assumption)); (· assumption); (simp only [Act.put, List.setIfInBounds_toArray, List.set_cons_zero, List.set_cons_succ])) | ((with_reducible apply cf_load); (· rfl); (· (first | assumption)); (· (exact Lib.hid rfl)); (simp only [Act.put, List.setIfInBounds_toArray, List.set_cons_zero, List.set_cons_succ])))
    refine (CD.out _).mono ?_
    rintro e w2 ⟨rfl, hb⟩
    have HB2 := Lib.hid (HB1.out.trans (hb.mono HB1.out.size))
    clear hb rx ry d8 d9
    go_wp2_with fail
    go_ret
    exact ⟨rfl, HB2.out⟩
  · go_enter Try.func34, Try.ntmps34
    go_upto_region 2 with fail
    generalize ((w.alloc (.cells #[.int .i64 o, .int .i64 k, .int .i64 a, .int .i64 n, .int .i64 p, .int .i64 q, .int .i64 s, .int .i64 l, .bool true, .bool false, .int .i64 b, .int .i64 bl] 49)).alloc (.cells #[.int .i64 r0, .int .i64 r1, .int .i64 mo, .int .i64 ba, .int .i64 ca] 51)) = W at *
    have CU' : Hid (∀ w, Calls Try.prog 26 #[.agg (enc12 o k a n p q s l true false b bl).toArray] w fun e w' => e = .returned (.bool false) ∧ Below w.heap.size w w') := Lib.hid (fun w => CU.out w)
    clear CU
    have rx : W.rangeAt w.heap.size 0 (enc12 o k a n p q s l true false b bl) := HA.out.range 0 _ (by simp)
    have ry : W.rangeAt (w.heap.size + 1) 0 (ints [r0, r1, mo, ba, ca]) := HC.out.range 0 _ rfl
    go_wp2_with (first | ((with_reducible apply en_load); (· rfl); (· (first | assumption)); (· assumption); (simp only [Act.put, List.setIfInBounds_toArray, List.set_cons_zero, List.set_cons_succ])) | ((with_reducible apply cf_load); (· rfl); (· (first | assumption)); (· (exact Lib.hid rfl)); (simp only [Act.put, List.setIfInBounds_toArray, List.set_cons_zero, List.set_cons_succ])))
    refine (CU'.out _).mono ?_
    rintro e w1 ⟨rfl, hb⟩
    have HB1 := Lib.hid (HB.out.trans (hb.mono HB.out.size))
    have HA1 := Lib.hid (HA.out.keep hb HA.out.lt)
    have HC1 := Lib.hid (HC.out.keep hb HC.out.lt)
    clear hb rx ry HA HB HC
    have rx : w1.rangeAt w.heap.size 0 (enc12 o k a n p q s l true false b bl) := HA1.out.range 0 _ (by simp)
    have ry : w1.rangeAt (w.heap.size + 1) 0 (ints [r0, r1, mo, ba, ca]) := HC1.out.range 0 _ rfl
    have d8 : w1.cell? ⟨w.heap.size, 8, none⟩ = some (.bool true) := HA1.out.cell 8
    have d9 : w1.cell? ⟨w.heap.size, 9, none⟩ = some (.bool false) := HA1.out.cell 9
    go_wp2_with (first | ((with_reducible apply en_load); (· rfl); (· (first | assumption)); (· assumption); (simp only [Act.put, List.setIfInBounds_toArray, List.set_cons_zero, List.set_cons_succ])) | ((with_reducible apply cf_load); (· rfl); (· (first | assumption)); (· (exact Lib.hid rfl)); (simp only [Act.put, List.setIfInBounds_toArray, List.set_cons_zero, List.set_cons_succ])))
    refine (CD.out _).mono ?_
    rintro e w2 ⟨rfl, hb⟩
    have HB2 := Lib.hid (HB1.out.trans (hb.mono HB1.out.size))
    clear hb rx ry d8 d9
    go_wp2_with fail
    go_ret
    exact ⟨rfl, HB2.out⟩
  · go_enter Try.func34, Try.ntmps34
    go_upto_region 2 with fail
    generalize ((w.alloc (.cells #[.int .i64 o, .int .i64 k, .int .i64 a, .int .i64 n, .int .i64 p, .int .i64 q, .int .i64 s, .int .i64 l, .bool true, .bool true, .int .i64 b, .int .i64 bl] 49)).alloc (.cells #[.int .i64 r0, .int .i64 r1, .int .i64 mo, .int .i64 ba, .int .i64 ca] 51)) = W at *
    have CU' : Hid (∀ w, Calls Try.prog 26 #[.agg (enc12 o k a n p q s l true true b bl).toArray] w fun e w' => e = .returned (.bool true) ∧ Below w.heap.size w w') := Lib.hid (fun w => CU.out w)
    clear CU
    have rx : W.rangeAt w.heap.size 0 (enc12 o k a n p q s l true true b bl) := HA.out.range 0 _ (by simp)
    have ry : W.rangeAt (w.heap.size + 1) 0 (ints [r0, r1, mo, ba, ca]) := HC.out.range 0 _ rfl
    go_wp2_with (first | ((with_reducible apply en_load); (· rfl); (· (first | assumption)); (· assumption); (simp only [Act.put, List.setIfInBounds_toArray, List.set_cons_zero, List.set_cons_succ])) | ((with_reducible apply cf_load); (· rfl); (· (first | assumption)); (· (exact Lib.hid rfl)); (simp only [Act.put, List.setIfInBounds_toArray, List.set_cons_zero, List.set_cons_succ])))
    refine (CU'.out _).mono ?_
    rintro e w1 ⟨rfl, hb⟩
    have HB1 := Lib.hid (HB.out.trans (hb.mono HB.out.size))
    have HA1 := Lib.hid (HA.out.keep hb HA.out.lt)
    have HC1 := Lib.hid (HC.out.keep hb HC.out.lt)
    clear hb rx ry HA HB HC
    have rx : w1.rangeAt w.heap.size 0 (enc12 o k a n p q s l true true b bl) := HA1.out.range 0 _ (by simp)
    have ry : w1.rangeAt (w.heap.size + 1) 0 (ints [r0, r1, mo, ba, ca]) := HC1.out.range 0 _ rfl
    have d8 : w1.cell? ⟨w.heap.size, 8, none⟩ = some (.bool true) := HA1.out.cell 8
    have d9 : w1.cell? ⟨w.heap.size, 9, none⟩ = some (.bool true) := HA1.out.cell 9
    go_wp2_with (first | ((with_reducible apply en_load); (· rfl); (· (first | assumption)); (· assumption); (simp only [Act.put, List.setIfInBounds_toArray, List.set_cons_zero, List.set_cons_succ])) | ((with_reducible apply cf_load); (· rfl); (· (first | assumption)); (· (exact Lib.hid rfl)); (simp only [Act.put, List.setIfInBounds_toArray, List.set_cons_zero, List.set_cons_succ])))
    refine (CD.out _).mono ?_
    rintro e w2 ⟨rfl, hb⟩
    have HB2 := Lib.hid (HB1.out.trans (hb.mono HB1.out.size))
    clear hb rx ry d8 d9
    go_wp2_with fail
    go_ret
    exact ⟨rfl, HB2.out⟩
  · go_enter Try.func34, Try.ntmps34
    go_upto_region 2 with fail
    generalize ((w.alloc (.cells #[.int .i64 o, .int .i64 k, .int .i64 a, .int .i64 n, .int .i64 p, .int .i64 q, .int .i64 s, .int .i64 l, .bool true, .bool true, .int .i64 b, .int .i64 bl] 49)).alloc (.cells #[.int .i64 r0, .int .i64 r1, .int .i64 mo, .int .i64 ba, .int .i64 ca] 51)) = W at *
    have CU' : Hid (∀ w, Calls Try.prog 26 #[.agg (enc12 o k a n p q s l true true b bl).toArray] w fun e w' => e = .returned (.bool true) ∧ Below w.heap.size w w') := Lib.hid (fun w => CU.out w)
    clear CU
    have rx : W.rangeAt w.heap.size 0 (enc12 o k a n p q s l true true b bl) := HA.out.range 0 _ (by simp)
    have ry : W.rangeAt (w.heap.size + 1) 0 (ints [r0, r1, mo, ba, ca]) := HC.out.range 0 _ rfl
    go_wp2_with (first | ((with_reducible apply en_load); (· rfl); (· (first | assumption)); (· assumption); (simp only [Act.put, List.setIfInBounds_toArray, List.set_cons_zero, List.set_cons_succ])) | ((with_reducible apply cf_load); (· rfl); (· (first | assumption)); (· (exact Lib.hid rfl)); (simp only [Act.put, List.setIfInBounds_toArray, List.set_cons_zero, List.set_cons_succ])))
    refine (CU'.out _).mono ?_
    rintro e w1 ⟨rfl, hb⟩
    have HB1 := Lib.hid (HB.out.trans (hb.mono HB.out.size))
    have HA1 := Lib.hid (HA.out.keep hb HA.out.lt)
    have HC1 := Lib.hid (HC.out.keep hb HC.out.lt)
    clear hb rx ry HA HB HC
    have rx : w1.rangeAt w.heap.size 0 (enc12 o k a n p q s l true true b bl) := HA1.out.range 0 _ (by simp)
    have ry : w1.rangeAt (w.heap.size + 1) 0 (ints [r0, r1, mo, ba, ca]) := HC1.out.range 0 _ rfl
    have d8 : w1.cell? ⟨w.heap.size, 8, none⟩ = some (.bool true) := HA1.out.cell 8
    have d9 : w1.cell? ⟨w.heap.size, 9, none⟩ = some (.bool true) := HA1.out.cell 9
    go_wp2_with (first | ((with_reducible apply en_load); (· rfl); (· (first | assumption)); (· assumption); (simp only [Act.put, List.setIfInBounds_toArray, List.set_cons_zero, List.set_cons_succ])) | ((with_reducible apply cf_load); (· rfl); (· (first | assumption)); (· (exact Lib.hid rfl)); (simp only [Act.put, List.setIfInBounds_toArray, List.set_cons_zero, List.set_cons_succ])))
    refine (CD.out _).mono ?_
    rintro e w2 ⟨rfl, hb⟩
    have HB2 := Lib.hid (HB1.out.trans (hb.mono HB1.out.size))
    clear hb rx ry d8 d9
    go_wp2_with fail
    go_ret
    exact ⟨rfl, HB2.out⟩
set_option maxRecDepth 100000 in
set_option maxHeartbeats 8000000 in
theorem rword_any (o k a n p q s l : Int) (ak gn : Bool) (b bl : Int) (r0 r1 mo ba ca now : Int) (w : World) : Calls Try.prog 35 #[.agg #[.int .i64 o, .int .i64 k, .int .i64 a, .int .i64 n, .int .i64 p, .int .i64 q, .int .i64 s, .int .i64 l, .bool ak, .bool gn, .int .i64 b, .int .i64 bl], .agg #[.int .i64 r0, .int .i64 r1, .int .i64 mo, .int .i64 ba, .int .i64 ca], .int .i64 now] w fun e w' => e = .returned (wordE (deadE s l ak gn b bl mo ba ca now) ak gn) ∧ Below w.heap.size w w' := by
  have A1 := Blk.new w #[.int .i64 o, .int .i64 k, .int .i64 a, .int .i64 n, .int .i64 p, .int .i64 q, .int .i64 s, .int .i64 l, .bool ak, .bool gn, .int .i64 b, .int .i64 bl] 52
  have hz1 : (w.alloc (.cells #[.int .i64 o, .int .i64 k, .int .i64 a, .int .i64 n, .int .i64 p, .int .i64 q, .int .i64 s, .int .i64 l, .bool ak, .bool gn, .int .i64 b, .int .i64 bl] 52)).heap.size = w.heap.size + 1 := by simp
  have AC : Blk ((w.alloc (.cells #[.int .i64 o, .int .i64 k, .int .i64 a, .int .i64 n, .int .i64 p, .int .i64 q, .int .i64 s, .int .i64 l, .bool ak, .bool gn, .int .i64 b, .int .i64 bl] 52)).alloc (.cells #[.int .i64 r0, .int .i64 r1, .int .i64 mo, .int .i64 ba, .int .i64 ca] 51)) (w.heap.size + 1) [.int .i64 r0, .int .i64 r1, .int .i64 mo, .int .i64 ba, .int .i64 ca] 51 := hz1 ▸ Blk.new (w.alloc (.cells #[.int .i64 o, .int .i64 k, .int .i64 a, .int .i64 n, .int .i64 p, .int .i64 q, .int .i64 s, .int .i64 l, .bool ak, .bool gn, .int .i64 b, .int .i64 bl] 52)) #[.int .i64 r0, .int .i64 r1, .int .i64 mo, .int .i64 ba, .int .i64 ca] 51
  have HA : Hid (Blk ((w.alloc (.cells #[.int .i64 o, .int .i64 k, .int .i64 a, .int .i64 n, .int .i64 p, .int .i64 q, .int .i64 s, .int .i64 l, .bool ak, .bool gn, .int .i64 b, .int .i64 bl] 52)).alloc (.cells #[.int .i64 r0, .int .i64 r1, .int .i64 mo, .int .i64 ba, .int .i64 ca] 51)) w.heap.size (enc12 o k a n p q s l ak gn b bl) 52) := Lib.hid (A1.alloc _)
  have HC := Lib.hid AC
  have HB := Lib.hid ((((Below.refl w.heap.size w).alloc (Nat.le_refl _) (.cells #[.int .i64 o, .int .i64 k, .int .i64 a, .int .i64 n, .int .i64 p, .int .i64 q, .int .i64 s, .int .i64 l, .bool ak, .bool gn, .int .i64 b, .int .i64 bl] 52)).alloc (by rw [hz1]; omega) (.cells #[.int .i64 r0, .int .i64 r1, .int .i64 mo, .int .i64 ba, .int .i64 ca] 51)))
  have HV := enc12_ok o k a n p q s l ak gn b bl
  clear A1 AC hz1
  have CD := Lib.hid (fun w => show Calls Try.prog 31 #[.agg (enc12 o k a n p q s l ak gn b bl).toArray, .agg (ints [r0, r1, mo, ba, ca]).toArray, .int .i64 now] w _ from rdead_any o k a n p q s l ak gn b bl r0 r1 mo ba ca now w)
  have CU := Lib.hid (fun w => show Calls Try.prog 26 #[.agg (enc12 o k a n p q s l ak gn b bl).toArray] w _ from undoes_any o k a n p q s l ak gn b bl w)
  generalize deadE s l ak gn b bl mo ba ca now = d at *
  cases ak <;> cases gn <;> cases d
  · go_enter Try.func35, Try.ntmps35
    go_upto_region 2 with fail
    generalize ((w.alloc (.cells #[.int .i64 o, .int .i64 k, .int .i64 a, .int .i64 n, .int .i64 p, .int .i64 q, .int .i64 s, .int .i64 l, .bool false, .bool false, .int .i64 b, .int .i64 bl] 52)).alloc (.cells #[.int .i64 r0, .int .i64 r1, .int .i64 mo, .int .i64 ba, .int .i64 ca] 51)) = W at *
    have CU' : Hid (∀ w, Calls Try.prog 26 #[.agg (enc12 o k a n p q s l false false b bl).toArray] w fun e w' => e = .returned (.bool false) ∧ Below w.heap.size w w') := Lib.hid (fun w => CU.out w)
    clear CU
    have rx : W.rangeAt w.heap.size 0 (enc12 o k a n p q s l false false b bl) := HA.out.range 0 _ (by simp)
    have ry : W.rangeAt (w.heap.size + 1) 0 (ints [r0, r1, mo, ba, ca]) := HC.out.range 0 _ rfl
    have d8 : W.cell? ⟨w.heap.size, 8, none⟩ = some (.bool false) := HA.out.cell 8
    have d9 : W.cell? ⟨w.heap.size, 9, none⟩ = some (.bool false) := HA.out.cell 9
    go_wp2_with (first | ((with_reducible apply er_load); (· rfl); (· (first | assumption)); (· assumption); (simp only [Act.put, List.setIfInBounds_toArray, List.set_cons_zero, List.set_cons_succ])) | ((with_reducible apply cf_load); (· rfl); (· (first | assumption)); (· (exact Lib.hid rfl)); (simp only [Act.put, List.setIfInBounds_toArray, List.set_cons_zero, List.set_cons_succ])))
    refine (CD.out _).mono ?_
    rintro e w2 ⟨rfl, hb⟩
    have HB2 := Lib.hid (HB.out.trans (hb.mono HB.out.size))
    clear hb rx ry d8 d9
    go_wp2_with fail
    go_ret
    exact ⟨rfl, HB2.out⟩
  · go_enter Try.func35, Try.ntmps35
    go_upto_region 2 with fail
    generalize ((w.alloc (.cells #[.int .i64 o, .int .i64 k, .int .i64 a, .int .i64 n, .int .i64 p, .int .i64 q, .int .i64 s, .int .i64 l, .bool false, .bool false, .int .i64 b, .int .i64 bl] 52)).alloc (.cells #[.int .i64 r0, .int .i64 r1, .int .i64 mo, .int .i64 ba, .int .i64 ca] 51)) = W at *
    have CU' : Hid (∀ w, Calls Try.prog 26 #[.agg (enc12 o k a n p q s l false false b bl).toArray] w fun e w' => e = .returned (.bool false) ∧ Below w.heap.size w w') := Lib.hid (fun w => CU.out w)
    clear CU
    have rx : W.rangeAt w.heap.size 0 (enc12 o k a n p q s l false false b bl) := HA.out.range 0 _ (by simp)
    have ry : W.rangeAt (w.heap.size + 1) 0 (ints [r0, r1, mo, ba, ca]) := HC.out.range 0 _ rfl
    have d8 : W.cell? ⟨w.heap.size, 8, none⟩ = some (.bool false) := HA.out.cell 8
    have d9 : W.cell? ⟨w.heap.size, 9, none⟩ = some (.bool false) := HA.out.cell 9
    go_wp2_with (first | ((with_reducible apply er_load); (· rfl); (· (first | assumption)); (· assumption); (simp only [Act.put, List.setIfInBounds_toArray, List.set_cons_zero, List.set_cons_succ])) | ((with_reducible apply cf_load); (· rfl); (· (first | assumption)); (· (exact Lib.hid rfl)); (simp only [Act.put, List.setIfInBounds_toArray, List.set_cons_zero, List.set_cons_succ])))
    refine (CD.out _).mono ?_
    rintro e w2 ⟨rfl, hb⟩
    have HB2 := Lib.hid (HB.out.trans (hb.mono HB.out.size))
    clear hb rx ry d8 d9
    go_wp2_with fail
    go_ret
    exact ⟨rfl, HB2.out⟩
  · go_enter Try.func35, Try.ntmps35
    go_upto_region 2 with fail
    generalize ((w.alloc (.cells #[.int .i64 o, .int .i64 k, .int .i64 a, .int .i64 n, .int .i64 p, .int .i64 q, .int .i64 s, .int .i64 l, .bool false, .bool true, .int .i64 b, .int .i64 bl] 52)).alloc (.cells #[.int .i64 r0, .int .i64 r1, .int .i64 mo, .int .i64 ba, .int .i64 ca] 51)) = W at *
    have CU' : Hid (∀ w, Calls Try.prog 26 #[.agg (enc12 o k a n p q s l false true b bl).toArray] w fun e w' => e = .returned (.bool false) ∧ Below w.heap.size w w') := Lib.hid (fun w => CU.out w)
    clear CU
    have rx : W.rangeAt w.heap.size 0 (enc12 o k a n p q s l false true b bl) := HA.out.range 0 _ (by simp)
    have ry : W.rangeAt (w.heap.size + 1) 0 (ints [r0, r1, mo, ba, ca]) := HC.out.range 0 _ rfl
    have d8 : W.cell? ⟨w.heap.size, 8, none⟩ = some (.bool false) := HA.out.cell 8
    have d9 : W.cell? ⟨w.heap.size, 9, none⟩ = some (.bool true) := HA.out.cell 9
    go_wp2_with (first | ((with_reducible apply er_load); (· rfl); (· (first | assumption)); (· assumption); (simp only [Act.put, List.setIfInBounds_toArray, List.set_cons_zero, List.set_cons_succ])) | ((with_reducible apply cf_load); (· rfl); (· (first | assumption)); (· (exact Lib.hid rfl)); (simp only [Act.put, List.setIfInBounds_toArray, List.set_cons_zero, List.set_cons_succ])))
    refine (CD.out _).mono ?_
    rintro e w2 ⟨rfl, hb⟩
    have HB2 := Lib.hid (HB.out.trans (hb.mono HB.out.size))
    clear hb rx ry d8 d9
    go_wp2_with fail
    go_ret
    exact ⟨rfl, HB2.out⟩
  · go_enter Try.func35, Try.ntmps35
    go_upto_region 2 with fail
    generalize ((w.alloc (.cells #[.int .i64 o, .int .i64 k, .int .i64 a, .int .i64 n, .int .i64 p, .int .i64 q, .int .i64 s, .int .i64 l, .bool false, .bool true, .int .i64 b, .int .i64 bl] 52)).alloc (.cells #[.int .i64 r0, .int .i64 r1, .int .i64 mo, .int .i64 ba, .int .i64 ca] 51)) = W at *
    have CU' : Hid (∀ w, Calls Try.prog 26 #[.agg (enc12 o k a n p q s l false true b bl).toArray] w fun e w' => e = .returned (.bool false) ∧ Below w.heap.size w w') := Lib.hid (fun w => CU.out w)
    clear CU
    have rx : W.rangeAt w.heap.size 0 (enc12 o k a n p q s l false true b bl) := HA.out.range 0 _ (by simp)
    have ry : W.rangeAt (w.heap.size + 1) 0 (ints [r0, r1, mo, ba, ca]) := HC.out.range 0 _ rfl
    have d8 : W.cell? ⟨w.heap.size, 8, none⟩ = some (.bool false) := HA.out.cell 8
    have d9 : W.cell? ⟨w.heap.size, 9, none⟩ = some (.bool true) := HA.out.cell 9
    go_wp2_with (first | ((with_reducible apply er_load); (· rfl); (· (first | assumption)); (· assumption); (simp only [Act.put, List.setIfInBounds_toArray, List.set_cons_zero, List.set_cons_succ])) | ((with_reducible apply cf_load); (· rfl); (· (first | assumption)); (· (exact Lib.hid rfl)); (simp only [Act.put, List.setIfInBounds_toArray, List.set_cons_zero, List.set_cons_succ])))
    refine (CD.out _).mono ?_
    rintro e w2 ⟨rfl, hb⟩
    have HB2 := Lib.hid (HB.out.trans (hb.mono HB.out.size))
    clear hb rx ry d8 d9
    go_wp2_with fail
    go_ret
    exact ⟨rfl, HB2.out⟩
  · go_enter Try.func35, Try.ntmps35
    go_upto_region 2 with fail
    generalize ((w.alloc (.cells #[.int .i64 o, .int .i64 k, .int .i64 a, .int .i64 n, .int .i64 p, .int .i64 q, .int .i64 s, .int .i64 l, .bool true, .bool false, .int .i64 b, .int .i64 bl] 52)).alloc (.cells #[.int .i64 r0, .int .i64 r1, .int .i64 mo, .int .i64 ba, .int .i64 ca] 51)) = W at *
    have CU' : Hid (∀ w, Calls Try.prog 26 #[.agg (enc12 o k a n p q s l true false b bl).toArray] w fun e w' => e = .returned (.bool false) ∧ Below w.heap.size w w') := Lib.hid (fun w => CU.out w)
    clear CU
    have rx : W.rangeAt w.heap.size 0 (enc12 o k a n p q s l true false b bl) := HA.out.range 0 _ (by simp)
    have ry : W.rangeAt (w.heap.size + 1) 0 (ints [r0, r1, mo, ba, ca]) := HC.out.range 0 _ rfl
    have d8 : W.cell? ⟨w.heap.size, 8, none⟩ = some (.bool true) := HA.out.cell 8
    have d9 : W.cell? ⟨w.heap.size, 9, none⟩ = some (.bool false) := HA.out.cell 9
    go_wp2_with (first | ((with_reducible apply er_load); (· rfl); (· (first | assumption)); (· assumption); (simp only [Act.put, List.setIfInBounds_toArray, List.set_cons_zero, List.set_cons_succ])) | ((with_reducible apply cf_load); (· rfl); (· (first | assumption)); (· (exact Lib.hid rfl)); (simp only [Act.put, List.setIfInBounds_toArray, List.set_cons_zero, List.set_cons_succ])))
    refine (CD.out _).mono ?_
    rintro e w2 ⟨rfl, hb⟩
    have HB2 := Lib.hid (HB.out.trans (hb.mono HB.out.size))
    clear hb rx ry d8 d9
    go_wp2_with fail
    go_ret
    exact ⟨rfl, HB2.out⟩
  · go_enter Try.func35, Try.ntmps35
    go_upto_region 2 with fail
    generalize ((w.alloc (.cells #[.int .i64 o, .int .i64 k, .int .i64 a, .int .i64 n, .int .i64 p, .int .i64 q, .int .i64 s, .int .i64 l, .bool true, .bool false, .int .i64 b, .int .i64 bl] 52)).alloc (.cells #[.int .i64 r0, .int .i64 r1, .int .i64 mo, .int .i64 ba, .int .i64 ca] 51)) = W at *
    have CU' : Hid (∀ w, Calls Try.prog 26 #[.agg (enc12 o k a n p q s l true false b bl).toArray] w fun e w' => e = .returned (.bool false) ∧ Below w.heap.size w w') := Lib.hid (fun w => CU.out w)
    clear CU
    have rx : W.rangeAt w.heap.size 0 (enc12 o k a n p q s l true false b bl) := HA.out.range 0 _ (by simp)
    have ry : W.rangeAt (w.heap.size + 1) 0 (ints [r0, r1, mo, ba, ca]) := HC.out.range 0 _ rfl
    have d8 : W.cell? ⟨w.heap.size, 8, none⟩ = some (.bool true) := HA.out.cell 8
    have d9 : W.cell? ⟨w.heap.size, 9, none⟩ = some (.bool false) := HA.out.cell 9
    go_wp2_with (first | ((with_reducible apply er_load); (· rfl); (· (first | assumption)); (· assumption); (simp only [Act.put, List.setIfInBounds_toArray, List.set_cons_zero, List.set_cons_succ])) | ((with_reducible apply cf_load); (· rfl); (· (first | assumption)); (· (exact Lib.hid rfl)); (simp only [Act.put, List.setIfInBounds_toArray, List.set_cons_zero, List.set_cons_succ])))
    refine (CD.out _).mono ?_
    rintro e w2 ⟨rfl, hb⟩
    have HB2 := Lib.hid (HB.out.trans (hb.mono HB.out.size))
    clear hb rx ry d8 d9
    go_wp2_with fail
    go_ret
    exact ⟨rfl, HB2.out⟩
  · go_enter Try.func35, Try.ntmps35
    go_upto_region 2 with fail
    generalize ((w.alloc (.cells #[.int .i64 o, .int .i64 k, .int .i64 a, .int .i64 n, .int .i64 p, .int .i64 q, .int .i64 s, .int .i64 l, .bool true, .bool true, .int .i64 b, .int .i64 bl] 52)).alloc (.cells #[.int .i64 r0, .int .i64 r1, .int .i64 mo, .int .i64 ba, .int .i64 ca] 51)) = W at *
    have CU' : Hid (∀ w, Calls Try.prog 26 #[.agg (enc12 o k a n p q s l true true b bl).toArray] w fun e w' => e = .returned (.bool true) ∧ Below w.heap.size w w') := Lib.hid (fun w => CU.out w)
    clear CU
    have rx : W.rangeAt w.heap.size 0 (enc12 o k a n p q s l true true b bl) := HA.out.range 0 _ (by simp)
    have ry : W.rangeAt (w.heap.size + 1) 0 (ints [r0, r1, mo, ba, ca]) := HC.out.range 0 _ rfl
    have d8 : W.cell? ⟨w.heap.size, 8, none⟩ = some (.bool true) := HA.out.cell 8
    have d9 : W.cell? ⟨w.heap.size, 9, none⟩ = some (.bool true) := HA.out.cell 9
    go_wp2_with (first | ((with_reducible apply er_load); (· rfl); (· (first | assumption)); (· assumption); (simp only [Act.put, List.setIfInBounds_toArray, List.set_cons_zero, List.set_cons_succ])) | ((with_reducible apply cf_load); (· rfl); (· (first | assumption)); (· (exact Lib.hid rfl)); (simp only [Act.put, List.setIfInBounds_toArray, List.set_cons_zero, List.set_cons_succ])))
    refine (CD.out _).mono ?_
    rintro e w2 ⟨rfl, hb⟩
    have HB2 := Lib.hid (HB.out.trans (hb.mono HB.out.size))
    clear hb rx ry d8 d9
    go_wp2_with fail
    go_ret
    exact ⟨rfl, HB2.out⟩
  · go_enter Try.func35, Try.ntmps35
    go_upto_region 2 with fail
    generalize ((w.alloc (.cells #[.int .i64 o, .int .i64 k, .int .i64 a, .int .i64 n, .int .i64 p, .int .i64 q, .int .i64 s, .int .i64 l, .bool true, .bool true, .int .i64 b, .int .i64 bl] 52)).alloc (.cells #[.int .i64 r0, .int .i64 r1, .int .i64 mo, .int .i64 ba, .int .i64 ca] 51)) = W at *
    have CU' : Hid (∀ w, Calls Try.prog 26 #[.agg (enc12 o k a n p q s l true true b bl).toArray] w fun e w' => e = .returned (.bool true) ∧ Below w.heap.size w w') := Lib.hid (fun w => CU.out w)
    clear CU
    have rx : W.rangeAt w.heap.size 0 (enc12 o k a n p q s l true true b bl) := HA.out.range 0 _ (by simp)
    have ry : W.rangeAt (w.heap.size + 1) 0 (ints [r0, r1, mo, ba, ca]) := HC.out.range 0 _ rfl
    have d8 : W.cell? ⟨w.heap.size, 8, none⟩ = some (.bool true) := HA.out.cell 8
    have d9 : W.cell? ⟨w.heap.size, 9, none⟩ = some (.bool true) := HA.out.cell 9
    go_wp2_with (first | ((with_reducible apply er_load); (· rfl); (· (first | assumption)); (· assumption); (simp only [Act.put, List.setIfInBounds_toArray, List.set_cons_zero, List.set_cons_succ])) | ((with_reducible apply cf_load); (· rfl); (· (first | assumption)); (· (exact Lib.hid rfl)); (simp only [Act.put, List.setIfInBounds_toArray, List.set_cons_zero, List.set_cons_succ])))
    refine (CD.out _).mono ?_
    rintro e w2 ⟨rfl, hb⟩
    have HB2 := Lib.hid (HB.out.trans (hb.mono HB.out.size))
    clear hb rx ry d8 d9
    go_wp2_with fail
    go_ret
    exact ⟨rfl, HB2.out⟩
set_option maxRecDepth 100000 in
set_option maxHeartbeats 4000000 in
theorem nget_len (a : Option Addr) (n c : Nat) (w : World) (hn : n ≠ 27) :
    Calls Try.prog 38 #[.slice a n c] w fun e w' => e = .returned (.tuple #[.agg ([.int .i64 0, .int .i64 0, .int .i64 0, .int .i64 0, .int .i64 0, .int .i64 0, .int .i64 0, .int .i64 0, .bool false, .bool false, .int .i64 0, .int .i64 0] : List Value).toArray, .bool false]) ∧ Below w.heap.size w w' := by
  have HB := Lib.hid ((Below.refl w.heap.size w).alloc (Nat.le_refl _) (.cells #[.int .i64 0, .int .i64 0, .int .i64 0, .int .i64 0, .int .i64 0, .int .i64 0, .int .i64 0, .int .i64 0, .bool false, .bool false, .int .i64 0, .int .i64 0] 49))
  have AZ := Lib.hid (Blk.new w #[.int .i64 0, .int .i64 0, .int .i64 0, .int .i64 0, .int .i64 0, .int .i64 0, .int .i64 0, .int .i64 0, .bool false, .bool false, .int .i64 0, .int .i64 0] 49)
  have hn' : ¬ (n : Int) = 27 := by omega
  clear hn
  go_enter Try.func38, Try.ntmps38
  go_upto_region 1 with fail
  generalize w.alloc (.cells #[.int .i64 0, .int .i64 0, .int .i64 0, .int .i64 0, .int .i64 0, .int .i64 0, .int .i64 0, .int .i64 0, .bool false, .bool false, .int .i64 0, .int .i64 0] 49) = W at *
  go_upto_region 2 with fail
  have C5 := Lib.hid (AZ.out.setAll (enc12 0 0 0 0 0 0 0 0 false false 0 0) rfl)
  have HBZ := Lib.hid (below_sets (Nat.le_refl _) (enc12 0 0 0 0 0 0 0 0 false false 0 0) 0 _ HB.out)
  go_wp2_with (first
    | ((with_reducible apply en_store0); (· rfl); (· rfl); (· exact AZ.out); (· rfl); (simp only [Act.put, List.setIfInBounds_toArray, List.set_cons_zero, List.set_cons_succ]); (generalize W.setCells w.heap.size 0 (enc12 0 0 0 0 0 0 0 0 false false 0 0) = WW at *)))
  refine ret_cell_tmp (p := 2) (q := 3) rfl rfl rfl C5.out Try.underlying49 rfl (by rw [en_size]; rfl) rfl ⟨rfl, HBZ.out⟩
end Go.Proofs.Ytalbkpahphndiaa
