/- An entry out of its octets. -/
import Derived.Test.YtalbkpahphndiaaEnt6
import Derived.Test.YtalbkpahphndiaaRow
import Derived.Test.YtalbkpahphndiaaOps
import Derived.RegionTactic
import Derived.BigRegion
import Derived.ChangeAlike
namespace Go.Proofs.Ytalbkpahphndiaa
set_option linter.unusedVariables false
set_option linter.unusedSimpArgs false
open Go.ChangeShapes Go.WideShapes Go.ChangeAt Go.RowKit
def actB (f : Int) : Bool := bits .and .i64 f 1 != 0
def gonB (f : Int) : Bool := bits .and .i64 f 2 != 0
theorem en_store0 {t t' g T : Nat} {ty : TypeId} {ps : String} {af : Array Edge} {a : Act} {w : World} {ops : Array Oper} {rest : List Oper} {Q : Exit → Act → World → Prop} {old : List Value}
    (hx : a.eval (.tmp t) = .pointer (some ⟨g, 0, none⟩)) (hy : a.eval (.tmp t') = (.agg #[.int .i64 0, .int .i64 0, .int .i64 0, .int .i64 0, .int .i64 0, .int .i64 0, .int .i64 0, .int .i64 0, .bool false, .bool false, .int .i64 0, .int .i64 0])) (hb : Blk w g old T) (hl : old.length = 12) (h : wpList Try.prog ops Q rest (a.put none undef) (w.setCells g 0 (enc12 0 0 0 0 0 0 0 0 false false 0 0))) :
    wpList Try.prog ops Q (⟨none, .store 49 (.tmp t) (.tmp t'), ty, ps, af, none⟩ :: rest) a w :=
  en_store (x := enc12 0 0 0 0 0 0 0 0 false false 0 0) hx hy hb hl (enc12_ok 0 0 0 0 0 0 0 0 false false 0 0) h
/-- what entry.Get answers. -/
def getN (ok : Bool) (o k a n p q s l : Int) (ak gn : Bool) (b bl : Int) : List Value := if ok then enc12 o k a n p q s l ak gn b bl else [.int .i64 0, .int .i64 0, .int .i64 0, .int .i64 0, .int .i64 0, .int .i64 0, .int .i64 0, .int .i64 0, .bool false, .bool false, .int .i64 0, .int .i64 0]
theorem eget_ex (a : Option Addr) (c : Nat) (bs : List UInt8) (w : World) (h : Sl w a 13 1 (bcells bs)) :
    Calls Try.prog 63 #[.slice a 13 c] w fun e w' => ∃ code, e = .returned (.tuple #[.agg (ints (effOf bs)).toArray, .int .i64 code]) ∧ Below w.heap.size w w' :=
  (eget_any a c bs w h).mono fun e w' hh => ⟨_, hh⟩
theorem Rds.keep {w0 : World} {B0 g0 g B : Nat} {bs : List UInt8} {wr w2 : World} (h : Rds w0 B0 g0 g B bs wr) (hb : Below wr.heap.size wr w2) : Rds w0 B0 g0 g B bs w2 := by
  obtain ⟨a, c, h0, h1, h2, h3, h4⟩ := h.rest
  exact ⟨⟨a, c, h0, (hb.block g h1.lt).trans h1, h2.keep hb, h3, h4⟩, h.var.keep hb h.var.lt, h.lo, h.gB, h.hi, Nat.le_trans h.sz hb.size, h.be.trans (hb.mono h.sz)⟩
theorem Rds.sets {w0 : World} {B0 g0 g B gc : Nat} {bs : List UInt8} (hc : g0 < gc) (vs : List Value) : ∀ (j : Nat) {wr : World}, Rds w0 B0 g0 g B bs wr → Rds w0 B0 g0 g B bs (wr.setCells gc j vs) := by
  induction vs with
  | nil => intro j wr h; exact h
  | cons v r ih => intro j wr h; exact ih _ (h.set hc v)
set_option maxRecDepth 100000 in
set_option maxHeartbeats 8000000 in
theorem nget_any (a : Option Addr) (c : Nat) (bs : List UInt8) (w : World) (h : Sl w a 27 1 (bcells bs)) (hnc : 27 ≤ c) (hcc : c ≤ 9223372036854775807) (ek ea en ep eq : Int) (hE : effOf ((bs.drop 1).take 13) = [ek, ea, en, ep, eq]) (ok : Bool) (hok : ok = decide (putN (fld bs 0 1) ek ea en ep eq (fld bs 14 1) (fld bs 15 4) (actB (fld bs 24 1)) (gonB (fld bs 24 1)) (fld bs 19 1) (fld bs 20 4) = bs)) :
    Calls Try.prog 38 #[.slice a 27 c] w fun e w' => e = .returned (.tuple #[.agg (getN ok (fld bs 0 1) ek ea en ep eq (fld bs 14 1) (fld bs 15 4) (actB (fld bs 24 1)) (gonB (fld bs 24 1)) (fld bs 19 1) (fld bs 20 4)).toArray, .bool ok]) ∧ Below w.heap.size w w' := by
  have A := Lib.hid (Blk.new w #[.int .i64 0, .int .i64 0, .int .i64 0, .int .i64 0, .int .i64 0, .int .i64 0, .int .i64 0, .int .i64 0, .bool false, .bool false, .int .i64 0, .int .i64 0] 49)
  have HB := Lib.hid ((Below.refl w.heap.size w).alloc (Nat.le_refl _) (.cells #[.int .i64 0, .int .i64 0, .int .i64 0, .int .i64 0, .int .i64 0, .int .i64 0, .int .i64 0, .int .i64 0, .bool false, .bool false, .int .i64 0, .int .i64 0] 49))
  have hz : w.heap.size < (w.alloc (.cells #[.int .i64 0, .int .i64 0, .int .i64 0, .int .i64 0, .int .i64 0, .int .i64 0, .int .i64 0, .int .i64 0, .bool false, .bool false, .int .i64 0, .int .i64 0] 49)).heap.size := by simp
  have hs1 := h.keep HB.out
  have HS := Lib.hid h
  have hbl : bs.length = 27 := sl_one h
  have HOK := Lib.hid hok
  have HE := Lib.hid hE
  clear h hok hE
  go_enter Try.func38, Try.ntmps38
  go_upto_region 1 with fail
  generalize w.alloc (.cells #[.int .i64 0, .int .i64 0, .int .i64 0, .int .i64 0, .int .i64 0, .int .i64 0, .int .i64 0, .int .i64 0, .bool false, .bool false, .int .i64 0, .int .i64 0] 49) = W at *
  have N := Lib.hid (new_any a 27 c bs W hs1 (by decide))
  clear hs1
  go_wp2_with fail
  refine N.out.mono ?_
  rintro e w2 ⟨g, a', c', rfl, hgw, h1, h2, h3, h4, hb2⟩
  have HR := Lib.hid (Rds.start (B0 := w.heap.size + 1) (w0 := W) (g := g) (bs := bs) (by rw [hbl]; exact h1) (by rw [hbl]; exact h4) (by omega) (by rw [hbl]; exact h2) (by simpa [maxLen] using h3) (by omega) (hb2.mono (by omega)))
  clear h1 h2 h3 h4 hb2
  go_upto_region 5 with fail
  have hwz : (w2.alloc (.cells #[.pointer (some ⟨g, 0, none⟩)] 86)).heap.size = w2.heap.size + 1 := by simp
  generalize w2.alloc (.cells #[.pointer (some ⟨g, 0, none⟩)] 86) = wr at *
  generalize hgg : w2.heap.size = g0 at *
  clear hgg w2
  have HBS := Lib.hid hbl
  clear hbl N
  have T := take1n_any HR.out (k := 1) (by decide) (by decide) (by rw [HBS.out]; decide)
  generalize hv : s64 (numOf (bs.take 1)) = v1 at T
  have HV1 := Lib.hid hv
  have HT := Lib.hid T
  clear hv T
  go_wp2_with fail
  refine HT.out.mono ?_
  rintro e x1 ⟨rfl, hr5, hg5⟩
  have HRn := Lib.hid hr5
  clear hr5 hg5 HR HT
  have HR := HRn
  clear HRn
  have HC := Lib.hid (Blk.new x1 #[.int .i64 v1, .int .i64 0, .int .i64 0, .int .i64 0, .int .i64 0, .int .i64 0, .int .i64 0, .int .i64 0, .bool false, .bool false, .int .i64 0, .int .i64 0] 49)
  have HRa := Lib.hid (HR.out.alloc (.cells #[.int .i64 v1, .int .i64 0, .int .i64 0, .int .i64 0, .int .i64 0, .int .i64 0, .int .i64 0, .int .i64 0, .bool false, .bool false, .int .i64 0, .int .i64 0] 49))
  have hge : g0 < x1.heap.size := HR.out.var.lt
  clear HR
  have HR := HRa
  clear HRa
  go_upto_region 6 with fail
  have hzz : x1.heap.size < (x1.alloc (.cells #[.int .i64 v1, .int .i64 0, .int .i64 0, .int .i64 0, .int .i64 0, .int .i64 0, .int .i64 0, .int .i64 0, .bool false, .bool false, .int .i64 0, .int .i64 0] 49)).heap.size := by simp
  generalize hgx : x1.heap.size = ge at *
  generalize x1.alloc (.cells #[.int .i64 v1, .int .i64 0, .int .i64 0, .int .i64 0, .int .i64 0, .int .i64 0, .int .i64 0, .int .i64 0, .bool false, .bool false, .int .i64 0, .int .i64 0] 49) = y1 at *
  clear hgx
  have c0 : y1.cell? ⟨g0, 0, none⟩ = some (.pointer (some ⟨g, 0, none⟩)) := HR.out.var.cell 0
  have T := Lib.hid (HR.out.bytes (k := 13) (by rw [List.length_drop, HBS.out]; decide) (by rw [List.length_drop, HBS.out]; decide) 13 rfl)
  go_wp2_with fail
  refine T.out.mono ?_
  rintro e x2 ⟨va, vc, rfl, ho, hr5, hg5⟩
  rw [List.drop_drop] at hr5
  have HCn := Lib.hid (HC.out.grown hg5 (by have := HR.out.gB; have := HR.out.hi; omega))
  have HRn := Lib.hid hr5
  have hzz2 : ge < x2.heap.size := Nat.lt_of_lt_of_le hzz hg5.size
  have HSL := Lib.hid (sl_own ho)
  clear hr5 hg5 HR T HC c0 ho hzz
  have HR := HRn
  have HC := HCn
  have hzz := hzz2
  clear HRn HCn hzz2
  have G := Lib.hid (eget_ex va vc _ x2 HSL.out)
  rw [HE.out] at G
  clear HSL
  go_wp2_with fail
  refine G.out.mono ?_
  rintro e x3 ⟨code, rfl, hb3⟩
  have HR3 := Lib.hid (HR.out.keep hb3)
  have HC3 := HC.out.keep hb3 hzz
  have hzz3 : ge < x3.heap.size := Nat.lt_of_lt_of_le hzz hb3.size
  clear HR HC hb3 G hzz
  go_upto_region 8 with (first
    | ((with_reducible apply ef_store_at); (· rfl); (· rfl); (· exact HC3); (· exact Nat.le_of_ble_eq_true rfl); (· exact Lib.hid rfl); (simp only [Act.put, List.setIfInBounds_toArray, List.set_cons_zero, List.set_cons_succ])))
  have HC := Lib.hid (show Blk (x3.setCells ge 1 (ints [ek, ea, en, ep, eq])) ge [.int .i64 v1, .int .i64 ek, .int .i64 ea, .int .i64 en, .int .i64 ep, .int .i64 eq, .int .i64 0, .int .i64 0, .bool false, .bool false, .int .i64 0, .int .i64 0] 49 from Blk.setAt (ints [ek, ea, en, ep, eq]) 1 x3 _ HC3 (by simp [ints]))
  have HR := Lib.hid (HR3.out.sets (gc := ge) hge (ints [ek, ea, en, ep, eq]) 1)
  have hzz : ge < (x3.setCells ge 1 (ints [ek, ea, en, ep, eq])).heap.size := by rw [size_sets]; exact hzz3
  clear HC3 HR3 hzz3
  generalize x3.setCells ge 1 (ints [ek, ea, en, ep, eq]) = x3s at *
  have T := take1n_any HR.out (k := 1) (by decide) (by decide) (by rw [List.length_drop, HBS.out]; decide)
  generalize hv : s64 (numOf ((bs.drop 14).take 1)) = v4 at T
  have HV4 := Lib.hid hv
  have HT := Lib.hid T
  clear hv T
  go_wp2_with fail
  refine HT.out.mono ?_
  rintro e x4 ⟨rfl, hr5, hg5⟩
  rw [List.drop_drop] at hr5
  have HCn := Lib.hid (HC.out.grown hg5 (by have := HR.out.gB; have := HR.out.hi; omega))
  have HRn := Lib.hid hr5
  have hzz4 : ge < x4.heap.size := Nat.lt_of_lt_of_le hzz hg5.size
  clear hr5 hg5 HR HT hzz HC
  have HR := HRn
  have hzz := hzz4
  clear HRn hzz4
  have HC := HCn
  clear HCn
  have T := take1n_any HR.out (k := 4) (by decide) (by decide) (by rw [List.length_drop, HBS.out]; decide)
  generalize hv : s64 (numOf ((bs.drop 15).take 4)) = v5 at T
  have HV5 := Lib.hid hv
  have HT := Lib.hid T
  clear hv T
  go_wp2_with fail
  refine HT.out.mono ?_
  rintro e x5 ⟨rfl, hr5, hg5⟩
  rw [List.drop_drop] at hr5
  have HCn := Lib.hid (HC.out.grown hg5 (by have := HR.out.gB; have := HR.out.hi; omega))
  have HRn := Lib.hid hr5
  have hzz5 : ge < x5.heap.size := Nat.lt_of_lt_of_le hzz hg5.size
  clear hr5 hg5 HR HT hzz HC
  have HR := HRn
  have hzz := hzz5
  clear HRn hzz5
  have HC := HCn
  clear HCn
  have T := take1n_any HR.out (k := 1) (by decide) (by decide) (by rw [List.length_drop, HBS.out]; decide)
  generalize hv : s64 (numOf ((bs.drop 19).take 1)) = v6 at T
  have HV6 := Lib.hid hv
  have HT := Lib.hid T
  clear hv T
  go_wp2_with fail
  refine HT.out.mono ?_
  rintro e x6 ⟨rfl, hr5, hg5⟩
  rw [List.drop_drop] at hr5
  have HCn := Lib.hid (HC.out.grown hg5 (by have := HR.out.gB; have := HR.out.hi; omega))
  have HRn := Lib.hid hr5
  have hzz6 : ge < x6.heap.size := Nat.lt_of_lt_of_le hzz hg5.size
  clear hr5 hg5 HR HT hzz HC
  have HR := HRn
  have hzz := hzz6
  clear HRn hzz6
  have HC := HCn
  clear HCn
  have T := take1n_any HR.out (k := 4) (by decide) (by decide) (by rw [List.length_drop, HBS.out]; decide)
  generalize hv : s64 (numOf ((bs.drop 20).take 4)) = v7 at T
  have HV7 := Lib.hid hv
  have HT := Lib.hid T
  clear hv T
  go_wp2_with fail
  refine HT.out.mono ?_
  rintro e x7 ⟨rfl, hr5, hg5⟩
  rw [List.drop_drop] at hr5
  have HCn := Lib.hid (HC.out.grown hg5 (by have := HR.out.gB; have := HR.out.hi; omega))
  have HRn := Lib.hid hr5
  have hzz7 : ge < x7.heap.size := Nat.lt_of_lt_of_le hzz hg5.size
  clear hr5 hg5 HR HT hzz HC
  have HR := HRn
  have hzz := hzz7
  clear HRn hzz7
  have HC := HCn
  clear HCn
  have k6 := HC.out.cell 6
  have f6 := HC.out.froz 6
  have k7 := HC.out.cell 7
  have f7 := HC.out.froz 7
  have k10 := HC.out.cell 10
  have f10 := HC.out.froz 10
  have k11 := HC.out.cell 11
  have f11 := HC.out.froz 11
  have HCs := Lib.hid ((((HC.out.set 6 (.int .i64 v4)).set 7 (.int .i64 v5)).set 10 (.int .i64 v6)).set 11 (.int .i64 v7))
  have HRs := Lib.hid ((((HR.out.set (gc := ge) (j := 6) hge (.int .i64 v4)).set (gc := ge) (j := 7) hge (.int .i64 v5)).set (gc := ge) (j := 10) hge (.int .i64 v6)).set (gc := ge) (j := 11) hge (.int .i64 v7))
  clear HC HR
  go_upto_region 9 with fail
  have HC := Lib.hid (show Blk ((((x7.setCell ⟨ge, 6, none⟩ (.int .i64 v4)).setCell ⟨ge, 7, none⟩ (.int .i64 v5)).setCell ⟨ge, 10, none⟩ (.int .i64 v6)).setCell ⟨ge, 11, none⟩ (.int .i64 v7)) ge [.int .i64 v1, .int .i64 ek, .int .i64 ea, .int .i64 en, .int .i64 ep, .int .i64 eq, .int .i64 v4, .int .i64 v5, .bool false, .bool false, .int .i64 v6, .int .i64 v7] 49 from HCs.out)
  have hzn : ge < ((((x7.setCell ⟨ge, 6, none⟩ (.int .i64 v4)).setCell ⟨ge, 7, none⟩ (.int .i64 v5)).setCell ⟨ge, 10, none⟩ (.int .i64 v6)).setCell ⟨ge, 11, none⟩ (.int .i64 v7)).heap.size := by rw [size_set, size_set, size_set, size_set]; exact hzz
  have HR := HRs
  clear HCs HRs k6 f6 k7 f7 k10 f10 k11 f11 hzz
  generalize (((x7.setCell ⟨ge, 6, none⟩ (.int .i64 v4)).setCell ⟨ge, 7, none⟩ (.int .i64 v5)).setCell ⟨ge, 10, none⟩ (.int .i64 v6)).setCell ⟨ge, 11, none⟩ (.int .i64 v7) = x7s at *
  have hzz := hzn
  clear hzn
  have T := take1n_any HR.out (k := 1) (by decide) (by decide) (by rw [List.length_drop, HBS.out]; decide)
  generalize hv : s64 (numOf ((bs.drop 24).take 1)) = v8 at T
  have HV8 := Lib.hid hv
  have HT := Lib.hid T
  clear hv T
  go_wp2_with fail
  refine HT.out.mono ?_
  rintro e x8 ⟨rfl, hr5, hg5⟩
  rw [List.drop_drop] at hr5
  have HCn := Lib.hid (HC.out.grown hg5 (by have := HR.out.gB; have := HR.out.hi; omega))
  have HRn := Lib.hid hr5
  have hzz8 : ge < x8.heap.size := Nat.lt_of_lt_of_le hzz hg5.size
  clear hr5 hg5 HR HT hzz HC
  have HR := HRn
  have hzz := hzz8
  clear HRn hzz8
  have HC := HCn
  clear HCn
  have k8 := HC.out.cell 8
  have f8 := HC.out.froz 8
  have k9 := HC.out.cell 9
  have f9 := HC.out.froz 9
  go_upto_region 11 with fail
  have HCs := Lib.hid ((HC.out.set 8 (.bool (bits .and .i64 v8 1 != 0))).set 9 (.bool (bits .and .i64 v8 2 != 0)))
  have HBs := Lib.hid (HB.out.trans ((below_set (below_set HR.out.be (show w.heap.size + 1 ≤ ge from by have := HR.out.lo; have := HR.out.gB; have := HR.out.hi; omega) 8 (.bool (bits .and .i64 v8 1 != 0))) (show w.heap.size + 1 ≤ ge from by have := HR.out.lo; have := HR.out.gB; have := HR.out.hi; omega) 9 (.bool (bits .and .i64 v8 2 != 0))).mono (Nat.le_succ _)))
  have AZ := Lib.hid (A.out.keep (below_set (below_set HR.out.be (show w.heap.size + 1 ≤ ge from by have := HR.out.lo; have := HR.out.gB; have := HR.out.hi; omega) 8 (.bool (bits .and .i64 v8 1 != 0))) (show w.heap.size + 1 ≤ ge from by have := HR.out.lo; have := HR.out.gB; have := HR.out.hi; omega) 9 (.bool (bits .and .i64 v8 2 != 0))) (Nat.lt_succ_self _))
  have hak : (bits .and .i64 v8 1 != 0) = actB (fld bs 24 1) := by rw [← HV8.out]; rfl
  have hgn : (bits .and .i64 v8 2 != 0) = gonB (fld bs 24 1) := by rw [← HV8.out]; rfl
  generalize (bits .and .i64 v8 1 != 0) = ak at *
  generalize (bits .and .i64 v8 2 != 0) = gn at *
  have HX : Hid (Blk ((x8.setCell ⟨ge, 8, none⟩ (.bool ak)).setCell ⟨ge, 9, none⟩ (.bool gn)) ge (enc12 v1 ek ea en ep eq v4 v5 ak gn v6 v7) 49) := HCs
  clear HCs HC k8 f8 k9 f9 HR hzz A HB
  generalize ((x8.setCell ⟨ge, 8, none⟩ (.bool ak)).setCell ⟨ge, 9, none⟩ (.bool gn)) = x8s at *
  have hv1 : v1 = fld bs 0 1 := HV1.out.symm
  have hv4 : v4 = fld bs 14 1 := HV4.out.symm
  have hv5 : v5 = fld bs 15 4 := HV5.out.symm
  have hv6 : v6 = fld bs 19 1 := HV6.out.symm
  have hv7 : v7 = fld bs 20 4 := HV7.out.symm
  rw [← hv1, ← hv4, ← hv5, ← hv6, ← hv7, ← hak, ← hgn] at HOK
  have HG : Hid (enc12 v1 ek ea en ep eq v4 v5 ak gn v6 v7 = enc12 (fld bs 0 1) ek ea en ep eq (fld bs 14 1) (fld bs 15 4) (actB (fld bs 24 1)) (gonB (fld bs 24 1)) (fld bs 19 1) (fld bs 20 4)) := Lib.hid (by rw [hv1, hv4, hv5, hv6, hv7, hak, hgn])
  have CP : Hid (∀ w, Calls Try.prog 36 #[.agg (enc12 v1 ek ea en ep eq v4 v5 ak gn v6 v7).toArray] w fun e w' => ∃ a' n' c', e = .returned (.slice a' n' c') ∧ Sl w' a' n' 1 (bcells (putN v1 ek ea en ep eq v4 v5 ak gn v6 v7)) ∧ n' ≤ c' ∧ c' ≤ 9223372036854775807 ∧ n' ≤ 27 ∧ Below w.heap.size w w') := Lib.hid (fun w => nput_any v1 ek ea en ep eq v4 v5 ak gn v6 v7 w)
  have HV := enc12_ok v1 ek ea en ep eq v4 v5 ak gn v6 v7
  clear hv1 hv4 hv5 hv6 hv7 hak hgn HV1 HV4 HV5 HV6 HV7 HV8
  generalize putN v1 ek ea en ep eq v4 v5 ak gn v6 v7 = PN at *
  generalize hX : enc12 v1 ek ea en ep eq v4 v5 ak gn v6 v7 = X at *
  clear hX
  have rx : x8s.rangeAt ge 0 X := HX.out.range 0 _ (by simp)
  go_wp2_with (first
    | ((with_reducible apply en_load); (· rfl); (· (first | assumption)); (· assumption); (simp only [Act.put, List.setIfInBounds_toArray, List.set_cons_zero, List.set_cons_succ])))
  refine (CP.out _).mono ?_
  rintro e x9 ⟨a9, n9, c9, rfl, hs9, _, _, _, hb9⟩
  have HB9 := Lib.hid (HBs.out.trans (hb9.mono HBs.out.size))
  have AX9 := Lib.hid (HX.out.keep hb9 HX.out.lt)
  have AZ9 := Lib.hid (AZ.out.keep hb9 AZ.out.lt)
  have BQ := beq_any a9 a n9 27 c9 c PN bs x9 hs9 (HS.out.keep HB9.out)
  rw [← HOK.out] at BQ
  have HQ := Lib.hid BQ
  clear BQ hs9 hb9 rx HX AZ HBs CP HOK
  cases ok
  · go_wp2_with fail
    refine HQ.out.mono ?_
    rintro e y9 ⟨rfl, hby⟩
    have HB10 := Lib.hid (HB9.out.trans (hby.mono HB9.out.size))
    have AZ10 := Lib.hid (AZ9.out.keep hby AZ9.out.lt)
    clear HQ hby HB9 AZ9 AX9
    have C5 := Lib.hid (AZ10.out.setAll (enc12 0 0 0 0 0 0 0 0 false false 0 0) rfl)
    have HBZ := Lib.hid (below_sets (Nat.le_refl _) (enc12 0 0 0 0 0 0 0 0 false false 0 0) 0 _ HB10.out)
    go_upto_region 12 with fail
    go_wp2_with (first
      | ((with_reducible apply en_store0); (· rfl); (· rfl); (· exact AZ10.out); (· rfl); (simp only [Act.put, List.setIfInBounds_toArray, List.set_cons_zero, List.set_cons_succ]); (generalize y9.setCells w.heap.size 0 (enc12 0 0 0 0 0 0 0 0 false false 0 0) = WW at *)))
    refine ret_cell_tmp (p := 2) (q := 3) rfl rfl rfl C5.out Try.underlying49 rfl (by rw [en_size]; rfl) rfl ⟨rfl, HBZ.out⟩
  · go_wp2_with fail
    refine HQ.out.mono ?_
    rintro e y9 ⟨rfl, hby⟩
    have HB10 := Lib.hid (HB9.out.trans (hby.mono HB9.out.size))
    have AZ10 := Lib.hid (AZ9.out.keep hby AZ9.out.lt)
    have AX10 := Lib.hid (AX9.out.keep hby AX9.out.lt)
    have rx : y9.rangeAt ge 0 X := AX10.out.range 0 _ (by simp)
    clear HQ hby HB9 AZ9 AX9
    have AZ11 := AZ10.out
    go_wp2_with (first
      | ((with_reducible apply en_load); (· rfl); (· (first | assumption)); (· assumption); (simp only [Act.put, List.setIfInBounds_toArray, List.set_cons_zero, List.set_cons_succ]))
      | ((with_reducible apply en_store); (· rfl); (· rfl); (· assumption); (· first | rfl | assumption); (· assumption); (simp only [Act.put, List.setIfInBounds_toArray, List.set_cons_zero, List.set_cons_succ])))
    have C5 := AZ11.setAll X (by rw [HV.out.1]; rfl)
    refine ret_cell_tmp (p := 2) (q := 3) rfl rfl rfl C5 Try.underlying49 rfl (by rw [en_size, HV.out.1]) rfl ⟨by rw [HG.out]; rfl, below_sets (Nat.le_refl _) _ _ _ HB10.out⟩
end Go.Proofs.Ytalbkpahphndiaa
