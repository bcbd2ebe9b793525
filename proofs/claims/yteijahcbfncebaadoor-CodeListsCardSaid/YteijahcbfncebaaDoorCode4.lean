/- A step's octets read. -/
import Derived.Test.YteijahcbfncebaaDoorCode3
import Derived.Test.YteijahcbfncebaaDoorRds
import Derived.Deep.DeepCutAuto
import Derived.RegionTactic
import Derived.BigRegion
import Derived.ChangeAlike
namespace Go.Proofs.YteijahcbfncebaaDoor
set_option linter.unusedVariables false
set_option linter.unusedSimpArgs false
open Go.ChangeShapes Go.WideShapes Go.ChangeAt Go.RowKit
set_option maxRecDepth 100000 in
set_option maxHeartbeats 200000 in
theorem ctk_any {B g k : Nat} {s : List UInt8 × Bool} {w : World} (h : RdS B w g s) (hk1 : 1 ≤ k) (hk8 : k ≤ 8) (z : Int) (hz : z = k) :
    Calls Tryd.prog 30 #[.pointer (some ⟨g, 0, none⟩), .int .i64 z] w fun e w' => e = .returned (.int .i64 (wrap64 (tkN s k : Int))) ∧ RdS B w' g (tkS s k) ∧ w.grownBy w' (some g) := by
  have C := Lib.hid (rds_take h hk1 hk8 z hz)
  clear h hk1 hk8 hz
  generalize tkN s k = m at *
  generalize tkB s k = bb at *
  go_enter Tryd.func30, Tryd.ntmps30
  go_wp2_with fail
  refine C.out.mono ?_
  rintro e w2 ⟨rfl, hr, hg⟩
  have HR := Lib.hid hr
  have HG := Lib.hid hg
  clear hr hg C
  go_wp2_with fail
  go_ret
  exact ⟨rfl, HR.out, HG.out⟩
theorem own_atS {w : World} {B n c : Nat} {a : Option Addr} {e : TypeId} {sz : Nat} {xs : List Value} (h : w.ownsRow B e sz (.slice a n c) n xs) : ∀ x, a = some x → x.block < w.heap.size := by
  intro x hx
  subst hx
  rcases h.2 with h0 | ⟨g, cap, cur, h1, h2, h3, h4⟩
  · cases h0.1
  · cases h1
    rcases Nat.lt_or_ge g w.heap.size with hl | hl
    · exact hl
    · rw [Array.getElem?_eq_none hl] at h3; cases h3
/-- a reader of our own over given octets. -/
theorem newr_any (a : Option Addr) (n c : Nat) (bs : List UInt8) (w : World) (h : Sl w a n 1 (bcells bs)) (hn : n ≤ 140737488355328) :
    Calls Tryd.prog 29 #[.slice a n c] w fun e w' => ∃ g, e = .returned (.pointer (some ⟨g, 0, none⟩)) ∧ w.heap.size ≤ g ∧ g < w'.heap.size ∧ RdS w'.heap.size w' g (bs, true) ∧ Below w.heap.size w w' := by
  have hl := sl_one h
  refine (new_own a n c bs w h hn).mono ?_
  rintro e w' ⟨g, a', c', rfl, h1, h2, h3, h4, h5, h6⟩
  obtain ⟨_, _, he, _, _, hs⟩ := Sl.own h5
  cases he
  refine ⟨g, rfl, h1, h2.lt, ⟨a', c', ?_, ?_, ?_, ?_, h2.lt, own_atS h5⟩, h6⟩
  · show Rdr w' g (.slice a' bs.length c') true
    rw [hl]; exact h2
  · show Sl w' a' bs.length 1 (bcells bs)
    rw [hl]; exact hs
  · show bs.length ≤ c'
    rw [hl]; exact h3
  · simpa [maxLen] using h4
section
variable {w : World} {ops : Array Oper} {rest : List Oper} {a : Act} {Q : Exit → Act → World → Prop} {ty : TypeId} {ps : String} {af : Array Edge}
theorem st_rowat {T g o t t' U : Nat} {cs old : List Value} (hb : Blk w g old U) (hl : o + cs.length ≤ old.length) (hT : RowT T cs.length) (h1 : ∀ u ∈ cs, u.oneCell' = true)
    (hx : a.eval (.tmp t) = .pointer (some ⟨g, o, none⟩)) (hy : a.eval (.tmp t') = .agg cs.toArray) (h : wpList Tryd.prog ops Q rest (a.put none undef) (w.setCells g o cs)) :
    wpList Tryd.prog ops Q (⟨none, .store T (.tmp t) (.tmp t'), ty, ps, af, none⟩ :: rest) a w :=
  wpList_store_mid rfl T (.tmp t) (.tmp t') rfl g o _ hx hy (hb.there o _ (by rw [List.size_toArray]; exact hl)) (by rw [hT.2, List.size_toArray]) (all_oneCell_toArray h1) (by rw [List.toList_toArray]; exact h)
end
theorem below_setsS {B : Nat} {w : World} {g : Nat} (hg : B ≤ g) (vs : List Value) : ∀ (o : Nat) (w' : World), Below B w w' → Below B w (w'.setCells g o vs) := by
  induction vs with
  | nil => intro o w' h; exact h
  | cons v r ih => intro o w' h; exact ih (o + 1) _ (below_set h hg o v)
theorem Below.grownS {B g : Nat} {w w1 w2 : World} (h : Below B w w1) (hg : w1.grownBy w2 (some g)) (hB : B ≤ g) (hs : B ≤ w1.heap.size) : Below B w w2 := Below.grown h hg hs (fun x hx => by cases hx; exact hB)
theorem Blk.sets_otherS {g g' t : Nat} {cs : List Value} (hne : g ≠ g') (vs : List Value) : ∀ (o : Nat) (w : World), Blk w g cs t → Blk (w.setCells g' o vs) g cs t := by
  induction vs with
  | nil => intro o w h; exact h
  | cons v r ih => intro o w h; exact ih (o + 1) _ (h.set_other hne o v)
/-- the step that octets are, whatever they are. -/
def decS (bs : List UInt8) : List Int := [wrap64 (tkN (bs, true) 1 : Int), wrap64 (tkN (tkS (bs, true) 1) 1 : Int), wrap64 (tkN (tkS (tkS (bs, true) 1) 1) 1 : Int), wrap64 (tkN (tkS (tkS (tkS (bs, true) 1) 1) 1) 4 : Int), 0, 0, 0, wrap64 (tkN (tkS (tkS (tkS (tkS (bs, true) 1) 1) 1) 4) 1 : Int), wrap64 (tkN (tkS (tkS (tkS (tkS (tkS (bs, true) 1) 1) 1) 4) 1) 1 : Int), wrap64 (tkN (tkS (tkS (tkS (tkS (tkS (tkS (bs, true) 1) 1) 1) 4) 1) 1) 1 : Int), wrap64 (tkN (tkS (tkS (tkS (tkS (tkS (tkS (tkS (bs, true) 1) 1) 1) 4) 1) 1) 1) 8 : Int), wrap64 (tkN (tkS (tkS (tkS (tkS (tkS (tkS (tkS (tkS (bs, true) 1) 1) 1) 4) 1) 1) 1) 8) 1 : Int), wrap64 (tkN (tkS (tkS (tkS (tkS (tkS (tkS (tkS (tkS (tkS (bs, true) 1) 1) 1) 4) 1) 1) 1) 8) 1) 2 : Int)]
set_option maxRecDepth 100000 in
set_option maxHeartbeats 8000000 in
theorem decode_any (a : Option Addr) (n c : Nat) (bs : List UInt8) (w : World) (h : Sl w a n 1 (bcells bs)) (hn : n ≤ 140737488355328) :
    Calls Tryd.prog 26 #[.slice a n c] w fun e w' => e = .returned (.agg (ints (decS bs)).toArray) ∧ Below w.heap.size w w' := by
  have HC0' : Hid (Blk (w.alloc (.cells #[.int .i64 0, .int .i64 0, .int .i64 0, .int .i64 0, .int .i64 0, .int .i64 0, .int .i64 0, .int .i64 0, .int .i64 0, .int .i64 0, .int .i64 0, .int .i64 0, .int .i64 0] 27)) w.heap.size [.int .i64 0, .int .i64 0, .int .i64 0, .int .i64 0, .int .i64 0, .int .i64 0, .int .i64 0, .int .i64 0, .int .i64 0, .int .i64 0, .int .i64 0, .int .i64 0, .int .i64 0] 27) := Lib.hid (Blk.new w #[.int .i64 0, .int .i64 0, .int .i64 0, .int .i64 0, .int .i64 0, .int .i64 0, .int .i64 0, .int .i64 0, .int .i64 0, .int .i64 0, .int .i64 0, .int .i64 0, .int .i64 0] 27)
  have HB0' := Lib.hid ((Below.refl w.heap.size w).alloc (Nat.le_refl _) (.cells #[.int .i64 0, .int .i64 0, .int .i64 0, .int .i64 0, .int .i64 0, .int .i64 0, .int .i64 0, .int .i64 0, .int .i64 0, .int .i64 0, .int .i64 0, .int .i64 0, .int .i64 0] 27))
  have HS := Lib.hid (h.keep HB0'.out)
  clear h
  go_enter Tryd.func26, Tryd.ntmps26
  go_upto_region 1 with fail
  generalize w.alloc (.cells #[.int .i64 0, .int .i64 0, .int .i64 0, .int .i64 0, .int .i64 0, .int .i64 0, .int .i64 0, .int .i64 0, .int .i64 0, .int .i64 0, .int .i64 0, .int .i64 0, .int .i64 0] 27) = W at *
  go_wp2_with fail
  refine (newr_any a n c bs W HS.out hn).mono ?_
  rintro e y0 ⟨g, rfl, hg1, hg2, hr0, hb0⟩
  have hgw : w.heap.size < g := Nat.lt_of_lt_of_le HC0'.out.lt hg1
  have HR0 := Lib.hid hr0
  have HG0 : Hid (y0.grownBy y0 (some g)) := Lib.hid (grown_of (Below.refl _ _) (some g))
  have HC0 := Lib.hid (HC0'.out.keep hb0 HC0'.out.lt)
  have HB0 := Lib.hid (HB0'.out.trans (hb0.mono HB0'.out.size))
  have HGG := Lib.hid hg2
  have HLO := Lib.hid hgw
  clear hr0 hb0 HC0' HB0' HS hg1 hg2 hgw
  go_wp2_with fail
  refine (ctk_any HR0.out (k := 1) (by decide) (by decide) 1 rfl).mono ?_
  rintro e y1 ⟨rfl, hr, hg⟩
  have HR1 := Lib.hid hr
  have HG1 := Lib.hid (HG0.out.trans hg)
  have HC1 := Lib.hid (HC0.out.grown hg (by have := HLO.out; omega))
  clear hr hg HR0 HG0 HC0
  generalize hnz1 : wrap64 (tkN (bs, true) 1 : Int) = z1 at *
  have Nz1 := Lib.hid hnz1
  clear hnz1
  go_wp2_with fail
  refine (ctk_any HR1.out (k := 1) (by decide) (by decide) 1 rfl).mono ?_
  rintro e y2 ⟨rfl, hr, hg⟩
  have HR2 := Lib.hid hr
  have HG2 := Lib.hid (HG1.out.trans hg)
  have HC2 := Lib.hid (HC1.out.grown hg (by have := HLO.out; omega))
  clear hr hg HR1 HG1 HC1
  generalize hnz2 : wrap64 (tkN (tkS (bs, true) 1) 1 : Int) = z2 at *
  have Nz2 := Lib.hid hnz2
  clear hnz2
  go_wp2_with fail
  refine (ctk_any HR2.out (k := 1) (by decide) (by decide) 1 rfl).mono ?_
  rintro e y3 ⟨rfl, hr, hg⟩
  have HR3 := Lib.hid hr
  have HG3 := Lib.hid (HG2.out.trans hg)
  have HC3 := Lib.hid (HC2.out.grown hg (by have := HLO.out; omega))
  clear hr hg HR2 HG2 HC2
  generalize hnz3 : wrap64 (tkN (tkS (tkS (bs, true) 1) 1) 1 : Int) = z3 at *
  have Nz3 := Lib.hid hnz3
  clear hnz3
  go_wp2_with fail
  refine (ctk_any HR3.out (k := 4) (by decide) (by decide) 4 rfl).mono ?_
  rintro e y4 ⟨rfl, hr, hg⟩
  have HR4 := Lib.hid hr
  have HG4 := Lib.hid (HG3.out.trans hg)
  have HC4 := Lib.hid (HC3.out.grown hg (by have := HLO.out; omega))
  clear hr hg HR3 HG3 HC3
  generalize hnz4 : wrap64 (tkN (tkS (tkS (tkS (bs, true) 1) 1) 1) 4 : Int) = z4 at *
  have Nz4 := Lib.hid hnz4
  clear hnz4
  have hal : Below y4.heap.size y4 (y4.alloc (.cells #[.int .i64 z1, .int .i64 z2, .int .i64 z3, .int .i64 z4, .int .i64 0, .int .i64 0, .int .i64 0, .int .i64 0, .int .i64 0, .int .i64 0, .int .i64 0, .int .i64 0, .int .i64 0] 27)) := (Below.refl _ _).alloc (Nat.le_refl _) _
  have HR4' := Lib.hid (HR4.out.keep hal)
  have HG4' := Lib.hid (HG4.out.trans (grown_of hal (some g)))
  have HC4' := Lib.hid (HC4.out.alloc (.cells #[.int .i64 z1, .int .i64 z2, .int .i64 z3, .int .i64 z4, .int .i64 0, .int .i64 0, .int .i64 0, .int .i64 0, .int .i64 0, .int .i64 0, .int .i64 0, .int .i64 0, .int .i64 0] 27))
  have HX4' : Hid (Blk (y4.alloc (.cells #[.int .i64 z1, .int .i64 z2, .int .i64 z3, .int .i64 z4, .int .i64 0, .int .i64 0, .int .i64 0, .int .i64 0, .int .i64 0, .int .i64 0, .int .i64 0, .int .i64 0, .int .i64 0] 27)) y4.heap.size [.int .i64 z1, .int .i64 z2, .int .i64 z3, .int .i64 z4, .int .i64 0, .int .i64 0, .int .i64 0, .int .i64 0, .int .i64 0, .int .i64 0, .int .i64 0, .int .i64 0, .int .i64 0] 27) := Lib.hid (Blk.new y4 #[.int .i64 z1, .int .i64 z2, .int .i64 z3, .int .i64 z4, .int .i64 0, .int .i64 0, .int .i64 0, .int .i64 0, .int .i64 0, .int .i64 0, .int .i64 0, .int .i64 0, .int .i64 0] 27)
  have HXB : Hid (y0.heap.size ≤ y4.heap.size) := Lib.hid HG4.out.size
  clear hal
  go_upto_region 3 with fail
  generalize hyz : y4.alloc (.cells #[.int .i64 z1, .int .i64 z2, .int .i64 z3, .int .i64 z4, .int .i64 0, .int .i64 0, .int .i64 0, .int .i64 0, .int .i64 0, .int .i64 0, .int .i64 0, .int .i64 0, .int .i64 0] 27) = yz at *
  generalize hgx : y4.heap.size = gx at *
  clear hyz hgx HR4 HG4 HC4
  have HR4 := HR4'
  have HG4 := HG4'
  have HC4 := HC4'
  have HX4 := HX4'
  clear HR4' HG4' HC4' HX4'
  go_wp2_with fail
  refine (ctk_any HR4.out (k := 1) (by decide) (by decide) 1 rfl).mono ?_
  rintro e y5 ⟨rfl, hr, hg⟩
  have HR5 := Lib.hid hr
  have HG5 := Lib.hid (HG4.out.trans hg)
  have HC5 := Lib.hid (HC4.out.grown hg (by have := HLO.out; omega))
  have HX5 := Lib.hid (HX4.out.grown hg (by have := HXB.out; have := HGG.out; omega))
  clear hr hg HR4 HG4 HC4 HX4
  generalize hnz5 : wrap64 (tkN (tkS (tkS (tkS (tkS (bs, true) 1) 1) 1) 4) 1 : Int) = z5 at *
  have Nz5 := Lib.hid hnz5
  clear hnz5
  go_wp2_with fail
  refine (ctk_any HR5.out (k := 1) (by decide) (by decide) 1 rfl).mono ?_
  rintro e y6 ⟨rfl, hr, hg⟩
  have HR6 := Lib.hid hr
  have HG6 := Lib.hid (HG5.out.trans hg)
  have HC6 := Lib.hid (HC5.out.grown hg (by have := HLO.out; omega))
  have HX6 := Lib.hid (HX5.out.grown hg (by have := HXB.out; have := HGG.out; omega))
  clear hr hg HR5 HG5 HC5 HX5
  generalize hnz6 : wrap64 (tkN (tkS (tkS (tkS (tkS (tkS (bs, true) 1) 1) 1) 4) 1) 1 : Int) = z6 at *
  have Nz6 := Lib.hid hnz6
  clear hnz6
  go_wp2_with fail
  refine (ctk_any HR6.out (k := 1) (by decide) (by decide) 1 rfl).mono ?_
  rintro e y7 ⟨rfl, hr, hg⟩
  have HR7 := Lib.hid hr
  have HG7 := Lib.hid (HG6.out.trans hg)
  have HC7 := Lib.hid (HC6.out.grown hg (by have := HLO.out; omega))
  have HX7 := Lib.hid (HX6.out.grown hg (by have := HXB.out; have := HGG.out; omega))
  clear hr hg HR6 HG6 HC6 HX6
  generalize hnz7 : wrap64 (tkN (tkS (tkS (tkS (tkS (tkS (tkS (bs, true) 1) 1) 1) 4) 1) 1) 1 : Int) = z7 at *
  have Nz7 := Lib.hid hnz7
  clear hnz7
  have HR7' := Lib.hid (RdS.sets (gc := gx) HXB.out [.int .i64 0, .int .i64 0, .int .i64 0, .int .i64 z5, .int .i64 z6, .int .i64 z7, .int .i64 0, .int .i64 0, .int .i64 0] 4 _ HR7.out)
  have HG7' := Lib.hid (grown_sets (row := some g) (w := y0) HXB.out [.int .i64 0, .int .i64 0, .int .i64 0, .int .i64 z5, .int .i64 z6, .int .i64 z7, .int .i64 0, .int .i64 0, .int .i64 0] 4 _ HG7.out)
  have HC7' := Lib.hid (Blk.sets_otherS (g' := gx) (by have := HC7.out.lt; have := HXB.out; have := HGG.out; have := HLO.out; omega) [.int .i64 0, .int .i64 0, .int .i64 0, .int .i64 z5, .int .i64 z6, .int .i64 z7, .int .i64 0, .int .i64 0, .int .i64 0] 4 _ HC7.out)
  have HX7' : Hid (Blk (y7.setCells gx 4 [.int .i64 0, .int .i64 0, .int .i64 0, .int .i64 z5, .int .i64 z6, .int .i64 z7, .int .i64 0, .int .i64 0, .int .i64 0]) gx [.int .i64 z1, .int .i64 z2, .int .i64 z3, .int .i64 z4, .int .i64 0, .int .i64 0, .int .i64 0, .int .i64 z5, .int .i64 z6, .int .i64 z7, .int .i64 0, .int .i64 0, .int .i64 0] 27) := Lib.hid (Blk.setAt [.int .i64 0, .int .i64 0, .int .i64 0, .int .i64 z5, .int .i64 z6, .int .i64 z7, .int .i64 0, .int .i64 0, .int .i64 0] 4 _ _ HX7.out (by show 4 + 9 ≤ 13; decide))
  have TL : RowT 25 ([.int .i64 0, .int .i64 0, .int .i64 0, .int .i64 z5, .int .i64 z6, .int .i64 z7, .int .i64 0, .int .i64 0, .int .i64 0] : List Value).length := rowC
  have HO1 : Hid (∀ u ∈ ([.int .i64 0, .int .i64 0, .int .i64 0, .int .i64 z5, .int .i64 z6, .int .i64 z7, .int .i64 0, .int .i64 0, .int .i64 0] : List Value), u.oneCell' = true) := Lib.hid (by simp [Value.oneCell'])
  have HLE : Hid (4 + ([.int .i64 0, .int .i64 0, .int .i64 0, .int .i64 z5, .int .i64 z6, .int .i64 z7, .int .i64 0, .int .i64 0, .int .i64 0] : List Value).length ≤ ([.int .i64 z1, .int .i64 z2, .int .i64 z3, .int .i64 z4, .int .i64 0, .int .i64 0, .int .i64 0, .int .i64 0, .int .i64 0, .int .i64 0, .int .i64 0, .int .i64 0, .int .i64 0] : List Value).length) := Lib.hid (by show 4 + 9 ≤ 13; decide)
  go_upto_region 4 with (first
    | ((with_reducible refine st_rowat (cs := [.int .i64 0, .int .i64 0, .int .i64 0, .int .i64 z5, .int .i64 z6, .int .i64 z7, .int .i64 0, .int .i64 0, .int .i64 0]) HX7.out HLE.out TL HO1.out ?_ ?_ ?_); (· rfl); (· rfl); (simp only [Act.put, List.setIfInBounds_toArray, List.set_cons_zero, List.set_cons_succ])))
  generalize hyz : y7.setCells gx 4 [.int .i64 0, .int .i64 0, .int .i64 0, .int .i64 z5, .int .i64 z6, .int .i64 z7, .int .i64 0, .int .i64 0, .int .i64 0] = yz at *
  clear hyz HR7 HG7 HC7 HX7
  have HR7 := HR7'
  have HG7 := HG7'
  have HC7 := HC7'
  have HX7 := HX7'
  clear HR7' HG7' HC7' HX7'
  go_wp2_with fail
  refine (rds_take HR7.out (k := 8) (by decide) (by decide) 8 rfl).mono ?_
  rintro e y8 ⟨rfl, hr, hg⟩
  have HR8 := Lib.hid hr
  have HG8 := Lib.hid (HG7.out.trans hg)
  have HC8 := Lib.hid (HC7.out.grown hg (by have := HLO.out; omega))
  have HX8 := Lib.hid (HX7.out.grown hg (by have := HXB.out; have := HGG.out; omega))
  clear hr hg HR7 HG7 HC7 HX7
  generalize tkB (tkS (tkS (tkS (tkS (tkS (tkS (tkS (bs, true) 1) 1) 1) 4) 1) 1) 1) 8 = bb8 at *
  generalize hnz8 : tkN (tkS (tkS (tkS (tkS (tkS (tkS (tkS (bs, true) 1) 1) 1) 4) 1) 1) 1) 8 = z8 at *
  have Nz8 := Lib.hid hnz8
  clear hnz8
  have HR8' := Lib.hid (RdS.sets (gc := gx) HXB.out [.int .i64 (wrap64 (z8 : Int))] 10 _ HR8.out)
  have HG8' := Lib.hid (grown_sets (row := some g) (w := y0) HXB.out [.int .i64 (wrap64 (z8 : Int))] 10 _ HG8.out)
  have HC8' := Lib.hid (Blk.sets_otherS (g' := gx) (by have := HC8.out.lt; have := HXB.out; have := HGG.out; have := HLO.out; omega) [.int .i64 (wrap64 (z8 : Int))] 10 _ HC8.out)
  have HX8' : Hid (Blk (y8.setCells gx 10 [.int .i64 (wrap64 (z8 : Int))]) gx [.int .i64 z1, .int .i64 z2, .int .i64 z3, .int .i64 z4, .int .i64 0, .int .i64 0, .int .i64 0, .int .i64 z5, .int .i64 z6, .int .i64 z7, .int .i64 (wrap64 (z8 : Int)), .int .i64 0, .int .i64 0] 27) := Lib.hid (Blk.setAt [.int .i64 (wrap64 (z8 : Int))] 10 _ _ HX8.out (by show 10 + 1 ≤ 13; decide))
  have cx : y8.cell? ⟨gx, 10, none⟩ = some (.int .i64 0) := HX8.out.cell 10
  have fx : y8.frozen? ⟨gx, 10, none⟩ = false := HX8.out.froz 10
  change Hid (RdS _ (y8.setCell ⟨gx, 10, none⟩ (.int .i64 (wrap64 (z8 : Int)))) _ _) at HR8'
  change Hid (World.grownBy _ (y8.setCell ⟨gx, 10, none⟩ (.int .i64 (wrap64 (z8 : Int)))) _) at HG8'
  change Hid (Blk (y8.setCell ⟨gx, 10, none⟩ (.int .i64 (wrap64 (z8 : Int)))) _ _ _) at HC8'
  change Hid (Blk (y8.setCell ⟨gx, 10, none⟩ (.int .i64 (wrap64 (z8 : Int)))) _ _ _) at HX8'
  go_upto_region 6 with fail
  clear cx fx
  generalize hyz : y8.setCell ⟨gx, 10, none⟩ (.int .i64 (wrap64 (z8 : Int))) = yz at *
  clear hyz HR8 HG8 HC8 HX8
  have HR8 := HR8'
  have HG8 := HG8'
  have HC8 := HC8'
  have HX8 := HX8'
  clear HR8' HG8' HC8' HX8'
  generalize hz8v : wrap64 (z8 : Int) = z8v at *
  have HZ8 := Lib.hid hz8v
  clear hz8v
  go_wp2_with fail
  refine (ctk_any HR8.out (k := 1) (by decide) (by decide) 1 rfl).mono ?_
  rintro e y9 ⟨rfl, hr, hg⟩
  have HR9 := Lib.hid hr
  have HG9 := Lib.hid (HG8.out.trans hg)
  have HC9 := Lib.hid (HC8.out.grown hg (by have := HLO.out; omega))
  have HX9 := Lib.hid (HX8.out.grown hg (by have := HXB.out; have := HGG.out; omega))
  clear hr hg HR8 HG8 HC8 HX8
  generalize hnz9 : wrap64 (tkN (tkS (tkS (tkS (tkS (tkS (tkS (tkS (tkS (bs, true) 1) 1) 1) 4) 1) 1) 1) 8) 1 : Int) = z9 at *
  have Nz9 := Lib.hid hnz9
  clear hnz9
  go_wp2_with fail
  refine (ctk_any HR9.out (k := 2) (by decide) (by decide) 2 rfl).mono ?_
  rintro e y10 ⟨rfl, hr, hg⟩
  have HR10 := Lib.hid hr
  have HG10 := Lib.hid (HG9.out.trans hg)
  have HC10 := Lib.hid (HC9.out.grown hg (by have := HLO.out; omega))
  have HX10 := Lib.hid (HX9.out.grown hg (by have := HXB.out; have := HGG.out; omega))
  clear hr hg HR9 HG9 HC9 HX9
  generalize hnz10 : wrap64 (tkN (tkS (tkS (tkS (tkS (tkS (tkS (tkS (tkS (tkS (bs, true) 1) 1) 1) 4) 1) 1) 1) 8) 1) 2 : Int) = z10 at *
  have Nz10 := Lib.hid hnz10
  clear hnz10
  have HR10' := Lib.hid (RdS.sets (gc := gx) HXB.out [.int .i64 z9, .int .i64 z10] 11 _ HR10.out)
  have HG10' := Lib.hid (grown_sets (row := some g) (w := y0) HXB.out [.int .i64 z9, .int .i64 z10] 11 _ HG10.out)
  have HC10' := Lib.hid (Blk.sets_otherS (g' := gx) (by have := HC10.out.lt; have := HXB.out; have := HGG.out; have := HLO.out; omega) [.int .i64 z9, .int .i64 z10] 11 _ HC10.out)
  have HX10' : Hid (Blk (y10.setCells gx 11 [.int .i64 z9, .int .i64 z10]) gx [.int .i64 z1, .int .i64 z2, .int .i64 z3, .int .i64 z4, .int .i64 0, .int .i64 0, .int .i64 0, .int .i64 z5, .int .i64 z6, .int .i64 z7, .int .i64 z8v, .int .i64 z9, .int .i64 z10] 27) := Lib.hid (Blk.setAt [.int .i64 z9, .int .i64 z10] 11 _ _ HX10.out (by show 11 + 2 ≤ 13; decide))
  have TL2 : RowT 23 ([.int .i64 z9, .int .i64 z10] : List Value).length := rowI
  have HO2 : Hid (∀ u ∈ ([.int .i64 z9, .int .i64 z10] : List Value), u.oneCell' = true) := Lib.hid (by simp [Value.oneCell'])
  have HLE2 : Hid (11 + ([.int .i64 z9, .int .i64 z10] : List Value).length ≤ ([.int .i64 z1, .int .i64 z2, .int .i64 z3, .int .i64 z4, .int .i64 0, .int .i64 0, .int .i64 0, .int .i64 z5, .int .i64 z6, .int .i64 z7, .int .i64 z8v, .int .i64 0, .int .i64 0] : List Value).length) := Lib.hid (by show 11 + 2 ≤ 13; decide)
  go_upto_region 7 with (first
    | ((with_reducible refine st_rowat (cs := [.int .i64 z9, .int .i64 z10]) HX10.out HLE2.out TL2 HO2.out ?_ ?_ ?_); (· rfl); (· rfl); (simp only [Act.put, List.setIfInBounds_toArray, List.set_cons_zero, List.set_cons_succ])))
  generalize hyz : y10.setCells gx 11 [.int .i64 z9, .int .i64 z10] = yz at *
  clear hyz HR10 HG10 HC10 HX10
  have HR10 := HR10'
  have HG10 := HG10'
  have HC10 := HC10'
  have HX10 := HX10'
  clear HR10' HG10' HC10' HX10'
  have HXF : Hid (Blk yz gx (ints [z1, z2, z3, z4, 0, 0, 0, z5, z6, z7, z8v, z9, z10]) 27) := HX10
  have rx : yz.rangeAt gx 0 (ints [z1, z2, z3, z4, 0, 0, 0, z5, z6, z7, z8v, z9, z10]) := HXF.out.range 0 _ rfl
  have TXF : RowT 27 (ints [z1, z2, z3, z4, 0, 0, 0, z5, z6, z7, z8v, z9, z10]).length := rowS
  have HOF : Hid (∀ u ∈ ints [z1, z2, z3, z4, 0, 0, 0, z5, z6, z7, z8v, z9, z10], u.oneCell' = true) := Lib.hid fun u hu => ints_one hu
  have HLF : Hid (([.int .i64 0, .int .i64 0, .int .i64 0, .int .i64 0, .int .i64 0, .int .i64 0, .int .i64 0, .int .i64 0, .int .i64 0, .int .i64 0, .int .i64 0, .int .i64 0, .int .i64 0] : List Value).length = (ints [z1, z2, z3, z4, 0, 0, 0, z5, z6, z7, z8v, z9, z10]).length) := Lib.hid (by simp [ints_len])
  have HCF := Lib.hid (HC10.out.setAll (ints [z1, z2, z3, z4, 0, 0, 0, z5, z6, z7, z8v, z9, z10]) HLF.out.symm)
  have HBF := Lib.hid (below_setsS (Nat.le_refl w.heap.size) (ints [z1, z2, z3, z4, 0, 0, 0, z5, z6, z7, z8v, z9, z10]) 0 _ (Below.grownS HB0.out HG10.out (Nat.le_of_lt HLO.out) HB0.out.size))
  have ED : Hid (decS bs = [z1, z2, z3, z4, 0, 0, 0, z5, z6, z7, z8v, z9, z10]) := Lib.hid (by unfold decS; rw [Nz1.out, Nz2.out, Nz3.out, Nz4.out, Nz5.out, Nz6.out, Nz7.out, Nz8.out, HZ8.out, Nz9.out, Nz10.out])
  go_wp2_with (first
    | ((with_reducible refine ld_row rx TXF ?_ ?_ ?_); (· rfl); (· rfl); (simp only [Act.put, List.setIfInBounds_toArray, List.set_cons_zero, List.set_cons_succ]))
    | ((with_reducible refine st_row (cs := ints [z1, z2, z3, z4, 0, 0, 0, z5, z6, z7, z8v, z9, z10]) HC10.out HLF.out TXF HOF.out ?_ ?_ ?_); (· rfl); (· rfl); (simp only [Act.put, List.setIfInBounds_toArray, List.set_cons_zero, List.set_cons_succ]); (generalize yz.setCells w.heap.size 0 (ints [z1, z2, z3, z4, 0, 0, 0, z5, z6, z7, z8v, z9, z10]) = yf at *)))
  exact ret_cell (p := 2) rfl rfl HCF.out Tryd.underlying27 rfl rowS.2 rfl ⟨by rw [ED.out], HBF.out⟩
end Go.Proofs.YteijahcbfncebaaDoor
