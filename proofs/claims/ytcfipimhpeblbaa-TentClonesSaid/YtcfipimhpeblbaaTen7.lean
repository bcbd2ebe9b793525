/- Tent.Take. -/
import Derived.Test.YtcfipimhpeblbaaTen6
import Derived.Deep.DeepCutAuto
import Derived.Maps.AppendAt
import Derived.Test.YtcfipimhpeblbaaRow
import Derived.Test.YtcfipimhpeblbaaOps
import Derived.RegionTactic
import Derived.BigRegion
import Derived.ChangeAlike
namespace Go.Proofs.Ytcfipimhpeblbaa
set_option linter.unusedVariables false
set_option linter.unusedSimpArgs false
open Go.ChangeShapes Go.WideShapes Go.ChangeAt Go.RowKit
theorem only_new {p : Nat → Prop} {w w' : World} (h : Only p w w') {g : Nat} (hg : w.heap.size ≤ g) (o : Nat) (vs : List Value) : Only p w (w'.setCells g o vs) :=
  Only.mono_old (p := fun k => p k ∨ k = g) ((h.mono (q := fun k => p k ∨ k = g) (fun _ hk => Or.inl hk)).setCells (Or.inr rfl) vs o) (fun k hk hp => hp.resolve_right (by omega))
theorem slNeS {w : World} {a : Option Addr} {g n sz : Nat} {xs : List Value} (h : Sl w a n sz xs) (ha : n = 0 ∨ ∀ ad, a = some ad → ad.block ≠ g) : ∀ (vs : List Value) (o : Nat), Sl (w.setCells g o vs) a n sz xs := by
  intro vs
  induction vs generalizing w with
  | nil => intro o; exact h
  | cons v r ih => intro o; exact ih (slNe h (fun ad e => ha.imp id (fun hh => hh ad e)) o v) (o + 1)
set_option maxRecDepth 100000 in
set_option maxHeartbeats 4000000 in
theorem ttake_no {{w : World}} {{g n c : Nat}} {{a : Option Addr}} {{L : List Int}} (T : Hid (Tn w g a n c L)) (r q : Int) (hf : Hid (∀ k, fits (L.getD k 0) = true)) (hr : fits r = true) (hq : fits q = true) (hn : n ≤ 999) (hfr : freeV L r q n = false) :
    Calls Try.prog 14 #[.pointer (some ⟨g, 0, none⟩), .agg #[.int .i64 r, .int .i64 q]] w fun e w' => e = .returned (.tuple #[.agg #[.int .i64 0, .int .i64 0, .int .i64 0, .int .i64 0, .int .i64 0, .int .i64 0, .int .i64 0, .int .i64 0, .int .i64 0], .bool false]) ∧ Below w.heap.size w w' := by
  have HB := Lib.hid (((Below.refl w.heap.size w).alloc (Nat.le_refl _) (.cells #[.int .i64 r, .int .i64 q] 34)).alloc (by simp) (.cells #[.int .i64 0, .int .i64 0, .int .i64 0, .int .i64 0, .int .i64 0, .int .i64 0, .int .i64 0, .int .i64 0, .int .i64 0] 36))
  have C1 : Hid (Blk ((w.alloc (.cells #[.int .i64 r, .int .i64 q] 34)).alloc (.cells #[.int .i64 0, .int .i64 0, .int .i64 0, .int .i64 0, .int .i64 0, .int .i64 0, .int .i64 0, .int .i64 0, .int .i64 0] 36)) w.heap.size (ints [r, q]) 34) := Lib.hid ((show Blk (w.alloc (.cells #[.int .i64 r, .int .i64 q] 34)) w.heap.size (ints [r, q]) 34 from Blk.new w #[.int .i64 r, .int .i64 q] 34).alloc _)
  have Z1 : Hid (Blk ((w.alloc (.cells #[.int .i64 r, .int .i64 q] 34)).alloc (.cells #[.int .i64 0, .int .i64 0, .int .i64 0, .int .i64 0, .int .i64 0, .int .i64 0, .int .i64 0, .int .i64 0, .int .i64 0] 36)) (w.heap.size + 1) (#[.int .i64 0, .int .i64 0, .int .i64 0, .int .i64 0, .int .i64 0, .int .i64 0, .int .i64 0, .int .i64 0, .int .i64 0] : Array Value).toList 36) := Lib.hid (by have := Blk.new (w.alloc (.cells #[.int .i64 r, .int .i64 q] 34)) #[.int .i64 0, .int .i64 0, .int .i64 0, .int .i64 0, .int .i64 0, .int .i64 0, .int .i64 0, .int .i64 0, .int .i64 0] 36; simpa using this)
  have T1 := Lib.hid (T.out.keep HB.out)
  have FR := Lib.hid (tfree_any T1 r q hf hr hq hn)
  rw [hfr] at FR
  clear hr hq hfr hf
  go_enter Try.func14, Try.ntmps14
  go_upto_region 1 with fail
  generalize hg0 : w.heap.size = g0 at *
  have HG0 := Lib.hid hg0
  generalize ((w.alloc (.cells #[.int .i64 r, .int .i64 q] 34)).alloc (.cells #[.int .i64 0, .int .i64 0, .int .i64 0, .int .i64 0, .int .i64 0, .int .i64 0, .int .i64 0, .int .i64 0, .int .i64 0] 36)) = w1 at *
  clear hg0
  have rI := C1.out.range 0 (ints [r, q]) rfl
  have TI : RowT 34 (ints [r, q]).length := rowIdS
  go_wp2_with (first
    | ((with_reducible refine ld_row rI TI ?_ ?_ ?_); (· rfl); (· rfl); (simp only [Act.put, List.setIfInBounds_toArray, List.set_cons_zero, List.set_cons_succ])))
  refine FR.out.mono ?_
  rintro e w2 ⟨rfl, hb⟩
  have HB2 := Lib.hid (HB.out.trans (hb.mono (HG0.out ▸ HB.out.size)))
  have C2 := Lib.hid (C1.out.keep hb C1.out.lt)
  have Z2 := Lib.hid (Z1.out.keep hb Z1.out.lt)
  have T2 := Lib.hid (T1.out.keep hb)
  clear hb rI HB C1 Z1 T1 FR
  have TO : RowT 36 (ints [0, 0, 0, 0, 0, 0, 0, 0, 0]).length := rowChg
  have OX : Hid (∀ u ∈ ints [0, 0, 0, 0, 0, 0, 0, 0, 0], u.oneCell' = true) := Lib.hid fun u hu => ints_one hu
  have HLA : ((#[.int .i64 0, .int .i64 0, .int .i64 0, .int .i64 0, .int .i64 0, .int .i64 0, .int .i64 0, .int .i64 0, .int .i64 0] : Array Value).toList).length = (ints [0, 0, 0, 0, 0, 0, 0, 0, 0]).length := rfl
  have A8 := Lib.hid (Z2.out.setAll (ints [0, 0, 0, 0, 0, 0, 0, 0, 0]) rfl)
  have HB8 := Lib.hid (below_sets (B := g0) (Nat.le_succ g0) (ints [0, 0, 0, 0, 0, 0, 0, 0, 0]) 0 _ HB2.out)
  go_wp2_with (first
    | ((with_reducible refine st_row Z2.out HLA TO OX.out ?_ ?_ ?_); (· rfl); (· rfl); (simp only [Act.put, List.setIfInBounds_toArray, List.set_cons_zero, List.set_cons_succ]); (generalize w2.setCells (g0 + 1) 0 (ints [0, 0, 0, 0, 0, 0, 0, 0, 0]) = w8 at *)))
  have hge := HG0.out
  subst hge
  refine ret_cell_tmp (cs := ints [0, 0, 0, 0, 0, 0, 0, 0, 0]) (v := .bool false) (p := 4) (q := 5) rfl rfl rfl A8.out Try.underlying36 rfl rowChg.2 rfl ?_
  exact ⟨rfl, HB8.out⟩
set_option maxRecDepth 100000 in
set_option maxHeartbeats 8000000 in
theorem ttake_yes {{w : World}} {{g n c : Nat}} {{a : Option Addr}} {{L : List Int}} (T : Hid (Tn w g a n c L)) (r q : Int) (j : Nat) (hf : Hid (∀ k, fits (L.getD k 0) = true)) (hr : fits r = true) (hq : fits q = true) (hn : n ≤ 999) (hfr : freeV L r q n = true) (hj : idxC L r q n = j) (hjn : j < n) :
    Calls Try.prog 14 #[.pointer (some ⟨g, 0, none⟩), .agg #[.int .i64 r, .int .i64 q]] w fun e w' => e = .returned (.tuple #[.agg (ints (rAt 9 L j)).toArray, .bool true]) ∧ (∃ a' c', Tn w' g a' (cntTo7 j n) c' (withTo L j n)) ∧ Only (fun k => k = g) w w' := by
  have hgw := T.out.b.lt
  have HB := Lib.hid (((Below.refl w.heap.size w).alloc (Nat.le_refl _) (.cells #[.int .i64 r, .int .i64 q] 34)).alloc (by simp) (.cells #[.int .i64 0, .int .i64 0, .int .i64 0, .int .i64 0, .int .i64 0, .int .i64 0, .int .i64 0, .int .i64 0, .int .i64 0] 36))
  have C1 : Hid (Blk ((w.alloc (.cells #[.int .i64 r, .int .i64 q] 34)).alloc (.cells #[.int .i64 0, .int .i64 0, .int .i64 0, .int .i64 0, .int .i64 0, .int .i64 0, .int .i64 0, .int .i64 0, .int .i64 0] 36)) w.heap.size (ints [r, q]) 34) := Lib.hid ((show Blk (w.alloc (.cells #[.int .i64 r, .int .i64 q] 34)) w.heap.size (ints [r, q]) 34 from Blk.new w #[.int .i64 r, .int .i64 q] 34).alloc _)
  have Z1 : Hid (Blk ((w.alloc (.cells #[.int .i64 r, .int .i64 q] 34)).alloc (.cells #[.int .i64 0, .int .i64 0, .int .i64 0, .int .i64 0, .int .i64 0, .int .i64 0, .int .i64 0, .int .i64 0, .int .i64 0] 36)) (w.heap.size + 1) (#[.int .i64 0, .int .i64 0, .int .i64 0, .int .i64 0, .int .i64 0, .int .i64 0, .int .i64 0, .int .i64 0, .int .i64 0] : Array Value).toList 36) := Lib.hid (by have := Blk.new (w.alloc (.cells #[.int .i64 r, .int .i64 q] 34)) #[.int .i64 0, .int .i64 0, .int .i64 0, .int .i64 0, .int .i64 0, .int .i64 0, .int .i64 0, .int .i64 0, .int .i64 0] 36; simpa using this)
  have T1 := Lib.hid (T.out.keep HB.out)
  have FR := Lib.hid (tfree_any T1 r q hf hr hq hn)
  rw [hfr] at FR
  have FD0 := Lib.hid (fun w' hs => sfind_any a n c L r q w' (Lib.hid hs) hf hr hq (by omega))
  rw [hj] at FD0
  have WT := Lib.hid (fun w' (hs : Sl w' a n 9 (ints L)) => swithF_any a n c L (j : Int) w' (Lib.hid hs) T.out.z (by omega) ((fits_iff _).2 ⟨by omega, by omega⟩))
  have HL : L.length = n * 9 := by have := T.out.s.1; rwa [ints_len] at this
  have LR : Hid ((rAt 9 L j).length = 9) := Lib.hid (rAt_len HL hjn)
  have NGR : Hid (¬ w.heap.size + 1 = g) := Lib.hid (by omega)
  have HGW := Lib.hid hgw
  clear hr hq hfr hf hj HL hgw
  go_enter Try.func14, Try.ntmps14
  go_upto_region 1 with fail
  generalize hg0 : w.heap.size = g0 at *
  have HG0 := Lib.hid hg0
  generalize ((w.alloc (.cells #[.int .i64 r, .int .i64 q] 34)).alloc (.cells #[.int .i64 0, .int .i64 0, .int .i64 0, .int .i64 0, .int .i64 0, .int .i64 0, .int .i64 0, .int .i64 0, .int .i64 0] 36)) = w1 at *
  clear hg0
  have rI := C1.out.range 0 (ints [r, q]) rfl
  have TI : RowT 34 (ints [r, q]).length := rowIdS
  go_wp2_with (first
    | ((with_reducible refine ld_row rI TI ?_ ?_ ?_); (· rfl); (· rfl); (simp only [Act.put, List.setIfInBounds_toArray, List.set_cons_zero, List.set_cons_succ])))
  refine FR.out.mono ?_
  rintro e w2 ⟨rfl, hb⟩
  have HB2 := Lib.hid (HB.out.trans (hb.mono (HG0.out ▸ HB.out.size)))
  have C2 := Lib.hid (C1.out.keep hb C1.out.lt)
  have Z2 := Lib.hid (Z1.out.keep hb Z1.out.lt)
  have T2 := Lib.hid (T1.out.keep hb)
  clear hb rI HB C1 Z1 T1 FR
  have FD := Lib.hid (fun w' (hb : Below w2.heap.size w2 w') => FD0.out w' (T2.out.s.keep hb))
  go_upto_region 3 with fail
  refine held_begin (fun w' => Below w2.heap.size w2 w') 7 [false, false, false, false, false, false, false] (by kernel_rfl) rfl (by rfl) ?_
  have hHeld : Below w2.heap.size w2 w2.drew := (Below.refl _ _).drew
  refine held_take (v := ?_) 0 13 [true, false, false, false, false, false, false] rfl (by rfl) (by rfl) (by kernel_rfl) (by kernel_rfl) (by kernel_rfl) (by rfl) (fun _ _ _ h => h) ?_ hHeld ?_
  rotate_left
  · intro w hSw; go_simp <;> with_reducible rfl
  simp only [Act.put, List.setIfInBounds_toArray, List.set_cons_zero, List.set_cons_succ]
  refine held_take (v := .pointer (some ⟨g, 0, none⟩)) 1 14 [true, true, false, false, false, false, false] rfl (by rfl) (by rfl) (by kernel_rfl) (by kernel_rfl) (by kernel_rfl) (by rfl) (fun _ _ _ h => h) (fun w' h => by first | (go_simp; done) | (go_simp <;> rfl)) hHeld ?_
  simp only [Act.put, List.setIfInBounds_toArray, List.set_cons_zero, List.set_cons_succ]
  refine held_take (v := .pointer (some ⟨g, 0, none⟩)) 2 15 [true, true, true, false, false, false, false] rfl (by rfl) (by rfl) (by kernel_rfl) (by kernel_rfl) (by kernel_rfl) (by rfl) (fun _ _ _ h => h) (fun w' h => by first | (go_simp; done) | (go_simp <;> rfl)) hHeld ?_
  simp only [Act.put, List.setIfInBounds_toArray, List.set_cons_zero, List.set_cons_succ]
  refine held_take (v := .slice a n c) 3 16 [true, true, true, true, false, false, false] rfl (by rfl) (by rfl) (by kernel_rfl) (by kernel_rfl) (by kernel_rfl) (by rfl) (fun _ _ _ h => h) (fun w' h => run_op_one rfl rfl Try.underlying24 rfl ((T2.out.b.keep h T2.out.b.lt).cell 0)) hHeld ?_
  simp only [Act.put, List.setIfInBounds_toArray, List.set_cons_zero, List.set_cons_succ]
  refine held_take (v := .agg #[.int .i64 r, .int .i64 q]) 4 17 [true, true, true, true, true, false, false] rfl (by rfl) (by rfl) (by kernel_rfl) (by kernel_rfl) (by kernel_rfl) (by rfl) (fun _ _ _ h => h) (fun w' h => run_op_load rfl rfl ((C2.out.keep h C2.out.lt).range 0 (ints [r, q]) rfl) Try.underlying34 rfl rfl) hHeld ?_
  simp only [Act.put, List.setIfInBounds_toArray, List.set_cons_zero, List.set_cons_succ]
  refine held_call 5 18 [true, true, true, true, true, true, false] (by kernel_rfl) rfl (by rfl) (by rfl) (by rfl) (by go_simp) ((FD.out _ hHeld).mono ?_)
  rintro e w4 ⟨rfl, hb4⟩
  refine ⟨_, rfl, hHeld.trans (hb4.mono hHeld.size), fun hHeld => ?_⟩
  simp only [Act.put, List.setIfInBounds_toArray, List.set_cons_zero, List.set_cons_succ]
  refine held_take (v := ?_) 6 6 [true, true, true, true, true, true, true] rfl (by rfl) (by rfl) (by kernel_rfl) (by kernel_rfl) (by kernel_rfl) (by rfl) (fun _ _ _ h => h) ?_ hHeld ?_
  rotate_left
  · intro w hSw; go_simp <;> with_reducible rfl
  simp only [Act.put, List.setIfInBounds_toArray, List.set_cons_zero, List.set_cons_succ]
  refine held_done (by kernel_rfl) ?_
  have HB3 := Lib.hid (HB2.out.trans (hHeld.mono (HG0.out ▸ HB2.out.size)))
  have Z3 := Lib.hid (Z2.out.keep hHeld Z2.out.lt)
  have T3 := Lib.hid (T2.out.keep hHeld)
  clear hHeld HB2 C2 Z2 T2 FD FD0
  generalize w4 = w3 at *
  obtain ⟨b, off, rfl, hlc, hra⟩ := rAt_at T3.out.s hjn
  have TO : RowT 36 (ints (rAt 9 L j)).length := by rw [ints_len, LR.out]; exact rowChg
  have OX : Hid (∀ u ∈ ints (rAt 9 L j), u.oneCell' = true) := Lib.hid fun u hu => ints_one hu
  have hlx : (#[.int .i64 0, .int .i64 0, .int .i64 0, .int .i64 0, .int .i64 0, .int .i64 0, .int .i64 0, .int .i64 0, .int .i64 0] : Array Value).size = (ints (rAt 9 L j)).length := by rw [ints_len, LR.out]; rfl
  have HLA : ((#[.int .i64 0, .int .i64 0, .int .i64 0, .int .i64 0, .int .i64 0, .int .i64 0, .int .i64 0, .int .i64 0, .int .i64 0] : Array Value).toList).length = (ints (rAt 9 L j)).length := by rw [ints_len, LR.out]; rfl
  have RS : Hid ((Try.prog.info? 36).map (·.size) = some (ints (rAt 9 L j)).length) := Lib.hid TO.2
  generalize hX : ints (rAt 9 L j) = X at *
  have HX := Lib.hid hX
  clear hX
  have hc0 := T3.out.b.cell 0
  have hj0 : (0 : Int) ≤ j := by omega
  have hjI : (j : Int) < n := by omega
  go_upto_region 5 with (first
    | ((with_reducible refine ld_row hra TO ?_ ?_ ?_); (· rfl); (· rfl); (simp only [Act.put, List.setIfInBounds_toArray, List.set_cons_zero, List.set_cons_succ]))
    | ((with_reducible refine st_row_new (old := #[.int .i64 0, .int .i64 0, .int .i64 0, .int .i64 0, .int .i64 0, .int .i64 0, .int .i64 0, .int .i64 0, .int .i64 0]) TO OX.out ?_ ?_ hlx ?_); (· rfl); (· rfl); (simp only [Act.put, List.setIfInBounds_toArray, List.set_cons_zero, List.set_cons_succ])))
  have D4 : Hid (Blk (w3.alloc (.cells X.toArray 36)) w3.heap.size X 36) := Lib.hid (Blk.new w3 X.toArray 36)
  have hal := (Below.refl w3.heap.size w3).alloc (Nat.le_refl _) (.cells X.toArray 36)
  have HB4 := Lib.hid (HB3.out.trans (hal.mono (HG0.out ▸ HB3.out.size)))
  have Z4 := Lib.hid (Z3.out.keep hal Z3.out.lt)
  have T4 := Lib.hid (T3.out.keep hal)
  have GL := Lib.hid T3.out.b.lt
  generalize hg7 : w3.heap.size = g7 at *
  have HG7 : Hid (¬ g7 = g) := Lib.hid (by have := GL.out; omega)
  have HG8 : Hid (g0 ≤ g7) := Lib.hid (by have := HB3.out.size; have := HG0.out; omega)
  generalize w3.alloc (.cells X.toArray 36) = w4 at *
  clear hal hra hlc HB3 Z3 T3 hc0 hg7
  have hc4 := T4.out.b.cell 0
  have W4 := Lib.hid (WT.out w4 T4.out.s)
  go_wp2_with fail
  refine W4.out.mono ?_
  rintro e w5 ⟨v5, rfl, ⟨a5, c5, rfl, hs5, hz5, hn5, hf5⟩, hb⟩
  generalize hcn : cntTo7 (j : Int) n = cn at *
  have HCN := Lib.hid hcn
  have HB5 := Lib.hid (HB4.out.trans (hb.mono (HG0.out ▸ HB4.out.size)))
  have B5 := Lib.hid (T4.out.b.keep hb T4.out.b.lt)
  have Z5 := Lib.hid (Z4.out.keep hb Z4.out.lt)
  have D5 := Lib.hid (D4.out.keep hb D4.out.lt)
  have FRE : Hid (cn = 0 ∨ ∀ ad, a5 = some ad → ad.block ≠ g ∧ ad.block ≠ g0 + 1) := Lib.hid (by
    refine hf5.imp id fun h ad e => ?_
    have h1 := h ad e
    have h2 := T4.out.b.lt
    have h3 := Z4.out.lt
    omega)
  have S6 := Lib.hid (slNe hs5 (fun ad e => FRE.out.imp id fun h => (h ad e).1) 0 (.slice a5 cn c5))
  have B6 := Lib.hid (B5.out.set 0 (.slice a5 cn c5))
  have Z6 := Lib.hid (Z5.out.set_other (g' := g) NGR.out 0 (.slice a5 cn c5))
  have D6 := Lib.hid (D5.out.set_other (g' := g) HG7.out 0 (.slice a5 cn c5))
  have HO6 := Lib.hid ((Only.ofBelow' (p := fun k => k = g) (show Below w.heap.size w w5 from HG0.out.symm ▸ HB5.out)).setCell (show g = g from rfl) 0 (.slice a5 cn c5))
  have ZN := Lib.hid (And.intro hz5 hn5)
  have hc5 := B5.out.cell 0
  have hfr5 := B5.out.froz 0
  have A8 := Lib.hid (Z6.out.setAll X HLA.symm)
  have S8 := Lib.hid (slNeS S6.out (g := g0 + 1) (FRE.out.imp id fun h ad e => (h ad e).2) X 0)
  have B8 := Lib.hid (B6.out.keep (B := g0 + 1) (below_sets (B := g0 + 1) (Nat.le_refl _) X 0 _ (Below.refl _ _)) (by have := HGW.out; omega))
  have HO8 := Lib.hid (only_new HO6.out (g := g0 + 1) (by have := HG0.out; omega) 0 X)
  clear hcn hb hs5 hz5 hn5 hf5 HB4 HB5 T4 Z4 D4 Z5 D5 W4 WT hc4 S6 B6 HO6
  have rX := D6.out.range 0 X (by simp)
  go_upto_region 6 with fail
  generalize w5.setCell ⟨g, 0, none⟩ (.slice a5 cn c5) = w6 at *
  go_wp2_with (first
    | ((with_reducible refine ld_row rX TO ?_ ?_ ?_); (· rfl); (· rfl); (simp only [Act.put, List.setIfInBounds_toArray, List.set_cons_zero, List.set_cons_succ]))
    | ((with_reducible refine st_row Z6.out HLA TO OX.out ?_ ?_ ?_); (· rfl); (· rfl); (simp only [Act.put, List.setIfInBounds_toArray, List.set_cons_zero, List.set_cons_succ]); (generalize w6.setCells (g0 + 1) 0 X = w8 at *)))
  refine ret_cell_tmp (cs := X) (v := .bool true) (p := 4) (q := 5) rfl rfl rfl A8.out Try.underlying36 rfl RS.out rfl ?_
  exact ⟨by rw [HX.out], ⟨a5, c5, by rw [HCN.out]; exact ⟨B8.out, S8.out, ZN.out.1, ZN.out.2⟩⟩, HO8.out⟩
end Go.Proofs.Ytcfipimhpeblbaa
