/- The reference's Get of a record. -/
import Derived.Test.YtfffbhkenggdcaaRec18
import Derived.Test.YtfffbhkenggdcaaRow
import Derived.Test.YtfffbhkenggdcaaOps
import Derived.Test.YtfffbhkenggdcaaEq
import Derived.Test.YtfffbhkenggdcaaChgOps
import Derived.RegionTactic
import Derived.BigRegion
import Derived.ChangeAlike
namespace Go.Proofs.Ytfffbhkenggdcaa
set_option linter.unusedVariables false
set_option linter.unusedSimpArgs false
open Go.ChangeShapes Go.WideShapes Go.ChangeAt Go.RowKit
theorem st_part_run {o : Oper} {T : TypeId} {x y : Operand} {a : Act} {w : World} {g off U : Nat} {old cs : List Value} (ho : o.op = .store T x y) (hx : a.eval x = .pointer (some ⟨g, off, none⟩)) (hy : a.eval y = .agg cs.toArray) (hb : Blk w g old U) (hl : off + cs.length ≤ old.length) (hi : (Try.prog.info? T).map (·.size) = some cs.length) (h1 : ∀ u ∈ cs, u.oneCell' = true) :
    (execOp a.eval o).run Try.prog w = .ok .skip (w.setCells g off cs) := by
  have := run_storeAt_mid (P := Try.prog) w g off T cs.toArray (hb.there off _ (by rw [List.size_toArray]; exact hl)) (by rw [hi, List.size_toArray]) (all_oneCell_toArray h1)
  rw [List.toList_toArray] at this
  unfold execOp
  simp only [ho, hx, hy, Sem.run_bind, this, Result.andThen_ok, Sem.run_pure]
theorem sub_atm {w : World} {bb off c i k m : Nat} {bs : List UInt8} (h : Sl w (some ⟨bb, off, none⟩) m 1 (bcells bs)) (hk : i + k ≤ m) (hc : m ≤ c) (hi : i < m) : Sl w (some ⟨bb, off + i, none⟩) k 1 (bcells ((bs.drop i).take k)) := by
  have := h.sub (c := c) hk hc
  unfold restOf at this
  rw [if_neg (by omega)] at this
  simpa [add_plain] using this
theorem rowR : RowT 35 17 := ⟨⟨_, Try.underlying35, rfl⟩, rr_size⟩
theorem oct_wrap {bs : List UInt8} {i x : Nat} (h : i < bs.length) (e : (bs.getD i 0).toNat = x) : IntKind.i64.wrap (x : Int) = fld bs i 1 := by rw [wrap_oct bs i h, e]
theorem num_wrap {bs : List UInt8} {i k m : Nat} (e : numOf ((bs.drop i).take k) = m) : IntKind.i64.wrap (m : Int) = fld bs i k := by rw [← e, i64_wrap64]; rfl
theorem num_one {bs : List UInt8} {i x : Nat} (h : i < bs.length) (e : (bs.getD i 0).toNat = x) : numOf ((bs.drop i).take 1) = x := by
  have h1 : (bs.drop i).take 1 = [bs.getD i 0] := by
    rw [List.take_one, List.head?_drop, List.getElem?_eq_getElem h, List.getD_eq_getElem?_getD, List.getElem?_eq_getElem h]; rfl
  rw [h1, ← e]; simp [numOf]
set_option maxRecDepth 100000 in
set_option maxHeartbeats 8000000 in
theorem rrgetM (a : Option Addr) (c : Nat) (bs : List UInt8) (w : World) (h : Sl w a 4 1 (bcells bs)) (hc : 4 ≤ c) (hcm : c ≤ 9223372036854775807) (h0 : (bs.getD 0 0).toNat = 2) :
    Calls Try.prog 7 #[.slice a 4 c] w fun e w' => e = .returned (.tuple #[.agg (getX (okM bs) (rec17 2 0 0 0 0 0 0 0 0 0 (fld bs 1 1) (fld bs 2 2) 0 0 0 false 0)).toArray, .bool (okM bs)]) ∧ Below w.heap.size w w' := by
  have hbl : bs.length = 4 := sl_one h
  obtain ⟨_, bb, off, rfl, hb, hcell⟩ := h.byte (by omega)
  have AZ0 : Hid (Blk (w.alloc (.cells #[.int .i64 0, .int .i64 0, .int .i64 0, .int .i64 0, .int .i64 0, .int .i64 0, .int .i64 0, .int .i64 0, .int .i64 0, .int .i64 0, .int .i64 0, .int .i64 0, .int .i64 0, .int .i64 0, .int .i64 0, .bool false, .int .i64 0] 35)) w.heap.size [.int .i64 0, .int .i64 0, .int .i64 0, .int .i64 0, .int .i64 0, .int .i64 0, .int .i64 0, .int .i64 0, .int .i64 0, .int .i64 0, .int .i64 0, .int .i64 0, .int .i64 0, .int .i64 0, .int .i64 0, .bool false, .int .i64 0] 35) := Lib.hid (Blk.new w #[.int .i64 0, .int .i64 0, .int .i64 0, .int .i64 0, .int .i64 0, .int .i64 0, .int .i64 0, .int .i64 0, .int .i64 0, .int .i64 0, .int .i64 0, .int .i64 0, .int .i64 0, .int .i64 0, .int .i64 0, .bool false, .int .i64 0] 35)
  have HB0 := Lib.hid ((Below.refl w.heap.size w).alloc (Nat.le_refl _) (.cells #[.int .i64 0, .int .i64 0, .int .i64 0, .int .i64 0, .int .i64 0, .int .i64 0, .int .i64 0, .int .i64 0, .int .i64 0, .int .i64 0, .int .i64 0, .int .i64 0, .int .i64 0, .int .i64 0, .int .i64 0, .bool false, .int .i64 0] 35))
  have hzW : w.heap.size < (w.alloc (.cells #[.int .i64 0, .int .i64 0, .int .i64 0, .int .i64 0, .int .i64 0, .int .i64 0, .int .i64 0, .int .i64 0, .int .i64 0, .int .i64 0, .int .i64 0, .int .i64 0, .int .i64 0, .int .i64 0, .int .i64 0, .bool false, .int .i64 0] 35)).heap.size := by simp
  have HS0 := Lib.hid (h.keep HB0.out)
  have b0 : w.cell? ⟨bb, off, none⟩ = some (.int .u8 2) := by have := hcell 0 (by omega); rw [h0] at this; exact this
  have HOK0 : Hid (okM bs = mayId (fld bs 1 1) (fld bs 2 2)) := Lib.hid (by unfold okM; rw [decide_eq_true hbl, Bool.true_and])
  have HC := Lib.hid fun w => rchkM (fld bs 1 1) (fld bs 2 2) w
  have HBL := Lib.hid hbl
  have OY := Lib.hid (rec17_ok 2 0 0 0 0 0 0 0 0 0 (fld bs 1 1) (fld bs 2 2) 0 0 0 false 0).out.2
  have TR : RowT 35 ((rec17 2 0 0 0 0 0 0 0 0 0 0 0 0 0 0 false 0)).length := rowR
  have O17 := (rec17_ok 2 0 0 0 0 0 0 0 0 0 0 0 0 0 0 false 0).out.2
  clear h h0 hbl hcell
  go_enter Try.func7, Try.ntmps7
  go_upto_region 1 with fail
  have a0 := (World.cell?_alloc_some w ⟨bb, off, none⟩ (.cells #[.int .i64 0, .int .i64 0, .int .i64 0, .int .i64 0, .int .i64 0, .int .i64 0, .int .i64 0, .int .i64 0, .int .i64 0, .int .i64 0, .int .i64 0, .int .i64 0, .int .i64 0, .int .i64 0, .int .i64 0, .bool false, .int .i64 0] 35) (by rw [b0]; rfl)).trans b0
  clear b0
  generalize w.alloc (.cells #[.int .i64 0, .int .i64 0, .int .i64 0, .int .i64 0, .int .i64 0, .int .i64 0, .int .i64 0, .int .i64 0, .int .i64 0, .int .i64 0, .int .i64 0, .int .i64 0, .int .i64 0, .int .i64 0, .int .i64 0, .bool false, .int .i64 0] 35) = W at *
  have AX0 : Hid (Blk (W.alloc (.cells ((rec17 2 0 0 0 0 0 0 0 0 0 0 0 0 0 0 false 0)).toArray 35)) W.heap.size (rec17 2 0 0 0 0 0 0 0 0 0 0 0 0 0 0 false 0) 35) := Lib.hid (Blk.new W ((rec17 2 0 0 0 0 0 0 0 0 0 0 0 0 0 0 false 0)).toArray 35)
  have AZ1 := Lib.hid (AZ0.out.alloc (.cells ((rec17 2 0 0 0 0 0 0 0 0 0 0 0 0 0 0 false 0)).toArray 35))
  have HBW := Lib.hid ((Below.refl W.heap.size W).alloc (Nat.le_refl _) (.cells ((rec17 2 0 0 0 0 0 0 0 0 0 0 0 0 0 0 false 0)).toArray 35))
  have cx : (W.alloc (.cells ((rec17 2 0 0 0 0 0 0 0 0 0 0 0 0 0 0 false 0)).toArray 35)).cell? ⟨W.heap.size, 0, none⟩ = some (.int .i64 2) := AX0.out.cell 0
  have bw : bb < W.heap.size := Nat.lt_of_lt_of_le hb HB0.out.size
  clear AZ0
  go_upto_region 4 with (first
    | ((with_reducible refine st_row_new (cs := (rec17 2 0 0 0 0 0 0 0 0 0 0 0 0 0 0 false 0)) TR O17 ?_ ?_ ?_ ?_); (· first | rfl | simp); (· rfl); (· rfl); (simp only [Act.put, List.setIfInBounds_toArray, List.set_cons_zero, List.set_cons_succ])))
  generalize hW2 : W.alloc (.cells ((rec17 2 0 0 0 0 0 0 0 0 0 0 0 0 0 0 false 0)).toArray 35) = W2 at *
  generalize hgx : W.heap.size = gx at *
  clear hW2
  go_upto_region 9 with fail
  have HSW := HS0
  have HL1 := Lib.hid (fun w' (hb' : Below gx W w') => show w'.cell? ⟨bb, off + 1, none⟩ = some (.int .u8 ((bs.getD 1 0).toNat : Int)) from (hb'.cell (p := ⟨bb, off + 1, none⟩) bw).trans (by
    obtain ⟨_, b2, o2, e2, _, h2⟩ := HSW.out.byte (by decide)
    injection e2 with e2
    injection e2 with e3 e4
    subst e3; subst e4
    exact h2 1 (by decide)))
  have HG2 := Lib.hid (fun w' (hb' : Below gx W w') => rget_any (some ⟨bb, off + 2, none⟩) 2 (c - 2) ((bs.drop 2).take 2) w' ((sub_atm HSW.out (i := 2) (k := 2) (by decide) hc (by decide)).keep (by rw [hgx]; exact hb')) (by decide))
  generalize hm2 : numOf ((bs.drop 2).take 2) = m2 at *
  generalize hx1 : (bs.getD 1 0).toNat = x1 at *
  have HM2 := Lib.hid hm2
  have HX1 := Lib.hid hx1
  clear hm2 hx1
  have hc2 : ¬ c = 2 := by omega
  have d2 : (2 : Int) ≤ c := by omega
  have d4 : (4 : Int) ≤ c := by omega
  have HBD : Hid (Below gx W W2.drew) := Lib.hid HBW.out.drew
  refine held_begin (fun w' => Below gx W w') 11 [false, false, false, false, false, false, false, false, false, false, false] (by kernel_rfl) rfl (by rfl) ?_
  have hHeld : Below gx W W2.drew := HBD.out
  refine held_take (v := ?_) 0 42 [true, false, false, false, false, false, false, false, false, false, false] rfl (by rfl) (by rfl) (by kernel_rfl) (by kernel_rfl) (by kernel_rfl) (by rfl) (fun _ _ _ h => h) ?_ hHeld ?_
  rotate_left
  · intro w hSw; go_simp <;> with_reducible rfl
  simp only [Act.put, List.setIfInBounds_toArray, List.set_cons_zero, List.set_cons_succ]
  refine held_take (v := ?_) 1 43 [true, true, false, false, false, false, false, false, false, false, false] rfl (by rfl) (by rfl) (by kernel_rfl) (by kernel_rfl) (by kernel_rfl) (by rfl) (fun _ _ _ h => h) ?_ hHeld ?_
  rotate_left
  · intro w hSw; go_simp <;> with_reducible rfl
  simp only [Act.put, List.setIfInBounds_toArray, List.set_cons_zero, List.set_cons_succ]
  refine held_take (v := .int .u8 x1) 2 44 [true, true, true, false, false, false, false, false, false, false, false] rfl (by rfl) (by rfl) (by kernel_rfl) (by kernel_rfl) (by kernel_rfl) (by rfl) (fun _ _ _ h => h) (fun w' h => by have k := HL1.out w' h; go_simp) hHeld ?_
  simp only [Act.put, List.setIfInBounds_toArray, List.set_cons_zero, List.set_cons_succ]
  refine held_take (v := ?_) 3 45 [true, true, true, true, false, false, false, false, false, false, false] rfl (by rfl) (by rfl) (by kernel_rfl) (by kernel_rfl) (by kernel_rfl) (by rfl) (fun _ _ _ h => h) ?_ hHeld ?_
  rotate_left
  · intro w hSw; go_simp <;> with_reducible rfl
  simp only [Act.put, List.setIfInBounds_toArray, List.set_cons_zero, List.set_cons_succ]
  refine held_take (v := ?_) 4 46 [true, true, true, true, true, false, false, false, false, false, false] rfl (by rfl) (by rfl) (by kernel_rfl) (by kernel_rfl) (by kernel_rfl) (by rfl) (fun _ _ _ h => h) ?_ hHeld ?_
  rotate_left
  · intro w hSw; go_simp <;> with_reducible rfl
  simp only [Act.put, List.setIfInBounds_toArray, List.set_cons_zero, List.set_cons_succ]
  refine held_take (v := ?_) 5 47 [true, true, true, true, true, true, false, false, false, false, false] rfl (by rfl) (by rfl) (by kernel_rfl) (by kernel_rfl) (by kernel_rfl) (by rfl) (fun _ _ _ h => h) ?_ hHeld ?_
  rotate_left
  · intro w hSw; go_simp <;> with_reducible rfl
  simp only [Act.put, List.setIfInBounds_toArray, List.set_cons_zero, List.set_cons_succ]
  refine held_call 6 48 [true, true, true, true, true, true, true, false, false, false, false] (by kernel_rfl) rfl (by rfl) (by rfl) (by rfl) (by go_simp) ((HG2.out _ hHeld).mono ?_)
  rintro e w' ⟨rfl, rfl⟩
  refine ⟨_, rfl, hHeld, fun hHeld => ?_⟩
  simp only [Act.put, List.setIfInBounds_toArray, List.set_cons_zero, List.set_cons_succ]
  refine held_take (v := .int .i64 (IntKind.i64.wrap m2)) 7 49 [true, true, true, true, true, true, true, true, false, false, false] rfl (by rfl) (by rfl) (by kernel_rfl) (by kernel_rfl) (by kernel_rfl) (by rfl) (fun _ _ _ h => h) (fun w' h => by go_simp <;> rfl) hHeld ?_
  simp only [Act.put, List.setIfInBounds_toArray, List.set_cons_zero, List.set_cons_succ]
  refine held_take (v := ?_) 8 50 [true, true, true, true, true, true, true, true, true, false, false] rfl (by rfl) (by rfl) (by kernel_rfl) (by kernel_rfl) (by kernel_rfl) (by rfl) (fun _ _ _ h => h) ?_ hHeld ?_
  rotate_left
  · intro w hSw; go_simp <;> with_reducible rfl
  simp only [Act.put, List.setIfInBounds_toArray, List.set_cons_zero, List.set_cons_succ]
  refine held_take (v := ?_) 9 51 [true, true, true, true, true, true, true, true, true, true, false] rfl (by rfl) (by rfl) (by kernel_rfl) (by kernel_rfl) (by kernel_rfl) (by rfl) (fun _ _ _ h => h) ?_ hHeld ?_
  rotate_left
  · intro w hSw; go_simp <;> with_reducible rfl
  simp only [Act.put, List.setIfInBounds_toArray, List.set_cons_zero, List.set_cons_succ]
  refine held_one 10 (by kernel_rfl) ?_
  refine op_skip [true, true, true, true, true, true, true, true, true, true, true] rfl (by rfl) (by rfl) (by rfl) (st_part_run (cs := [.int .i64 (IntKind.i64.wrap x1), .int .i64 (IntKind.i64.wrap m2)]) rfl rfl rfl AX0.out.drew (by show 12 ≤ 17; decide) id_size (by simp [Value.oneCell'])) ((below_sets (by omega) [.int .i64 (IntKind.i64.wrap x1), .int .i64 (IntKind.i64.wrap m2)] 10 _ hHeld)) fun hHeld => ?_
  refine held_done (by kernel_rfl) ?_
  have HY : Hid (Blk (W2.drew.setCells gx 10 [.int .i64 (IntKind.i64.wrap x1), .int .i64 (IntKind.i64.wrap m2)]) gx (rec17 2 0 0 0 0 0 0 0 0 0 (fld bs 1 1) (fld bs 2 2) 0 0 0 false 0) 35) := Lib.hid (by
    have := Blk.setAt [.int .i64 (IntKind.i64.wrap x1), .int .i64 (IntKind.i64.wrap m2)] 10 _ _ AX0.out.drew (by show 12 ≤ 17; decide)
    have e1 := oct_wrap (i := 1) (by rw [HBL.out]; decide) HX1.out
    have e2 := num_wrap HM2.out
    rw [e1, e2] at this ⊢
    exact this)
  have AZ2 : Hid (Blk (W2.drew.setCells gx 10 [.int .i64 (IntKind.i64.wrap x1), .int .i64 (IntKind.i64.wrap m2)]) w.heap.size [.int .i64 0, .int .i64 0, .int .i64 0, .int .i64 0, .int .i64 0, .int .i64 0, .int .i64 0, .int .i64 0, .int .i64 0, .int .i64 0, .int .i64 0, .int .i64 0, .int .i64 0, .int .i64 0, .int .i64 0, .bool false, .int .i64 0] 35) := Lib.hid (Blk.sets_other (by omega) [.int .i64 (IntKind.i64.wrap x1), .int .i64 (IntKind.i64.wrap m2)] 10 _ AZ1.out.drew)
  have HB9 : Hid (Below w.heap.size w (W2.drew.setCells gx 10 [.int .i64 (IntKind.i64.wrap x1), .int .i64 (IntKind.i64.wrap m2)])) := Lib.hid (HB0.out.trans (hHeld.mono (by omega)))
  clear hHeld
  generalize hw9 : W2.drew.setCells gx 10 [.int .i64 (IntKind.i64.wrap x1), .int .i64 (IntKind.i64.wrap m2)] = w9 at *
  clear hw9 AX0 AZ1 HBW cx a0 HBD HL1 HG2
  generalize mayId (fld bs 1 1) (fld bs 2 2) = v at *
  have HYL : Hid ((rec17 2 0 0 0 0 0 0 0 0 0 (fld bs 1 1) (fld bs 2 2) 0 0 0 false 0).length = 17) := Lib.hid rfl
  have TY : RowT 35 (rec17 2 0 0 0 0 0 0 0 0 0 (fld bs 1 1) (fld bs 2 2) 0 0 0 false 0).length := rowR
  generalize hY : rec17 2 0 0 0 0 0 0 0 0 0 (fld bs 1 1) (fld bs 2 2) 0 0 0 false 0 = Y at *
  have HYV := Lib.hid hY
  clear hY
  have HYZ : Hid (([.int .i64 0, .int .i64 0, .int .i64 0, .int .i64 0, .int .i64 0, .int .i64 0, .int .i64 0, .int .i64 0, .int .i64 0, .int .i64 0, .int .i64 0, .int .i64 0, .int .i64 0, .int .i64 0, .int .i64 0, .bool false, .int .i64 0] : List Value).length = Y.length) := Lib.hid (by rw [HYL.out]; rfl)
  have ry : w9.rangeAt gx 0 Y := HY.out.range 0 _ (by simp)
  go_upto_region 17 with fail
  go_wp2_with (first
    | ((with_reducible refine ld_row ry TY ?_ ?_ ?_); (· rfl); (· rfl); (simp only [Act.put, List.setIfInBounds_toArray, List.set_cons_zero, List.set_cons_succ])))
  refine (HC.out _).mono ?_
  rintro e w8 ⟨rfl, hb8⟩
  have AX := Lib.hid (HY.out.keep hb8 HY.out.lt)
  have AZ := Lib.hid (AZ2.out.keep hb8 AZ2.out.lt)
  have HBX := Lib.hid (HB9.out.trans (hb8.mono HB9.out.size))
  have HOK := HOK0
  have TR2 : RowT 35 ((rec17 0 0 0 0 0 0 0 0 0 0 0 0 0 0 0 false 0)).length := rowR
  have OZ := (rec17_ok 0 0 0 0 0 0 0 0 0 0 0 0 0 0 0 false 0).out.2
  clear hb8 ry HY AZ2 HB9 HC HOK0 TR O17
  have TR := TR2
  have O17 := OZ
  clear TR2 OZ
  rcases v with _ | _
  · rw [show rcode false = 4 from rfl]
    have C5 := Lib.hid (AZ.out.setAll (rec17 0 0 0 0 0 0 0 0 0 0 0 0 0 0 0 false 0) rfl)
    have HBZ := Lib.hid (below_sets (Nat.le_refl _) (rec17 0 0 0 0 0 0 0 0 0 0 0 0 0 0 0 false 0) 0 _ HBX.out)
    go_upto_region 18 with fail
    go_wp2_with (first
      | ((with_reducible refine st_row (cs := (rec17 0 0 0 0 0 0 0 0 0 0 0 0 0 0 0 false 0)) AZ.out rfl TR O17 ?_ ?_ ?_); (· rfl); (· rfl); (simp only [Act.put, List.setIfInBounds_toArray, List.set_cons_zero, List.set_cons_succ]); (generalize w8.setCells w.heap.size 0 (rec17 0 0 0 0 0 0 0 0 0 0 0 0 0 0 0 false 0) = WW at *)))
    refine ret_cell_tmp (p := 2) (q := 3) rfl rfl rfl C5.out Try.underlying35 rfl (by rw [rr_size]; rfl) rfl ⟨by rw [HOK.out]; rfl, HBZ.out⟩
  · rw [show rcode true = 0 from rfl]
    have C5 := Lib.hid (AZ.out.setAll Y (by rw [HYL.out]; rfl))
    have HBZ := Lib.hid (below_sets (Nat.le_refl _) Y 0 _ HBX.out)
    have ry : w8.rangeAt gx 0 Y := AX.out.range 0 _ (by simp)
    go_wp2_with (first
      | ((with_reducible refine ld_row ry TY ?_ ?_ ?_); (· rfl); (· rfl); (simp only [Act.put, List.setIfInBounds_toArray, List.set_cons_zero, List.set_cons_succ]))
      | ((with_reducible refine st_row (cs := Y) AZ.out HYZ.out TY OY.out ?_ ?_ ?_); (· rfl); (· rfl); (simp only [Act.put, List.setIfInBounds_toArray, List.set_cons_zero, List.set_cons_succ]); (generalize w8.setCells w.heap.size 0 Y = WW at *)))
    refine ret_cell_tmp (p := 2) (q := 3) rfl rfl rfl C5.out Try.underlying35 rfl (by rw [rr_size, HYL.out]) rfl ⟨by rw [HOK.out, HYV.out]; rfl, HBZ.out⟩
end Go.Proofs.Ytfffbhkenggdcaa
