/- The statements of disks: a write that goes through, upon the disk and in the book. -/
import Derived.Test.YteebmpbplenikaaDsk6
import Derived.RegionTactic
import Derived.BigRegion
import Derived.ChangeAlike
import Derived.Laws.IdiomCopy
import Derived.Deep.LoopGhost
import Derived.Deep.DeepCutAuto
namespace Go.Proofs.Yteebmpbplenikaa
set_option linter.unusedVariables false
set_option linter.unusedSimpArgs false
open Go.ChangeShapes Go.WideShapes Go.ChangeAt Go.RowKit
theorem sl_oneD {w : World} {a : Option Addr} {n : Nat} {bs : List UInt8} (h : Sl w a n 1 (bcells bs)) : bs.length = n := by have := h.1; rw [bcells_len] at this; omega
theorem setSeg_step {bs xs : List UInt8} {o j : Nat} (hj : j < xs.length) (ho : o + xs.length ≤ bs.length) : (setSeg bs o (xs.take j)).set (o + j) (xs.getD j 0) = setSeg bs o (xs.take (j + 1)) := by
  apply List.ext_getElem?
  intro q
  have hl : (bs.take o).length = o := by rw [List.length_take]; omega
  have e : ∀ ys : List UInt8, ys.length ≤ xs.length → (setSeg bs o ys)[q]? = if q < o then bs[q]? else if q < o + ys.length then ys[q - o]? else bs[q]? := by
    intro ys hy
    unfold setSeg
    by_cases h1 : q < o
    · rw [if_pos h1, List.append_assoc, List.getElem?_append_left (by omega), List.getElem?_take_of_lt h1]
    · rw [if_neg h1]
      by_cases h2 : q < o + ys.length
      · rw [if_pos h2, List.append_assoc, List.getElem?_append_right (by omega), hl, List.getElem?_append_left (by omega)]
      · rw [if_neg h2, List.append_assoc, List.getElem?_append_right (by omega), hl, List.getElem?_append_right (by omega), List.getElem?_drop]
        congr 1
        omega
  have l1 : (xs.take j).length = j := by rw [List.length_take]; omega
  have l2 : (xs.take (j + 1)).length = j + 1 := by rw [List.length_take]; omega
  have hs : (setSeg bs o (xs.take j)).length = bs.length := setSeg_len (by rw [l1]; omega)
  rw [List.getElem?_set, e _ (by omega), e _ (by omega), l1, l2, hs]
  by_cases h1 : o + j = q
  · subst h1
    rw [if_pos rfl, if_pos (by omega), if_neg (by omega), if_pos (by omega), Nat.add_sub_cancel_left, List.getElem?_take_of_lt (by omega), List.getD_eq_getElem?_getD, List.getElem?_eq_getElem hj]
    rfl
  · rw [if_neg h1]
    by_cases h2 : q < o
    · rw [if_pos h2, if_pos h2]
    · rw [if_neg h2, if_neg h2]
      by_cases h3 : q < o + j
      · rw [if_pos h3, if_pos (by omega), List.getElem?_take_of_lt (by omega), List.getElem?_take_of_lt (by omega)]
      · rw [if_neg h3, if_neg (by omega)]
set_option maxRecDepth 100000 in
set_option maxHeartbeats 4000000 in
theorem bwrite_full {B g n c k kc : Nat} {a ka : Option Addr} {bs : List UInt8} {tw : Int} {w : World} (h : Two w B g a n c k ka kc bs (-1) false tw) (kd z : Int) (i : Nat) (ab : Option Addr) (cb : Nat) (xs : List UInt8) (hx : Sl w ab 32 1 (bcells xs)) (hnc : 32 ≤ cb) (hab : ∀ x, ab = some x → x.block < B) (hin : i < n) :
    Calls Try.prog 28 #[.pointer (some ⟨k, 0, none⟩), .pointer (some ⟨g, 0, none⟩), .agg #[.int .i64 kd, .int .i64 (i : Int), .int .i64 z, .slice ab 32 cb]] w fun e w' => e = .returned (.bool true) ∧ (∃ bs' left' dead' wr, Two w' B g a n c k ka kc bs' left' dead' wr) ∧ Below B w w' ∧ Only (fun j => dkp g a j ∨ bkp k ka j) w w' := by
  obtain ⟨ii, hii⟩ : ∃ ii : Int, ii = i := ⟨_, rfl⟩
  obtain ⟨nb, hnb⟩ : ∃ nb : Nat, nb = 32 := ⟨_, rfl⟩
  rw [← hii, ← hnb]
  rw [← hnb] at hx
  have hxl : xs.length = 32 := by have := sl_oneD hx; omega
  have HXL := Lib.hid hxl
  have HII := Lib.hid hii
  have HNB := Lib.hid hnb
  have HIN := Lib.hid hin
  have HNC := Lib.hid hnc
  have q1 : ¬ ii < 0 := by omega
  have q2 : ¬ (n : Int) ≤ ii := by omega
  have q3 : (nb : Int) = 32 := by omega
  clear hxl hii hnb hin hnc
  obtain ⟨m, hm⟩ : ∃ m, m = 32 * n := ⟨_, rfl⟩
  have ew : IntKind.i64.wrap (n : Int) = n := (IntKind.wrap_i64 (n : Int)).trans (by have := h.d.few; omega)
  have et : (m : Int).tdiv 32 = n := by rw [Int.tdiv_eq_ediv_of_nonneg (by omega)]; omega
  have HA : Hid (Blk (w.alloc (.cells #[.int .i64 kd, .int .i64 ii, .int .i64 z, .slice ab nb cb] 49)) w.heap.size [.int .i64 kd, .int .i64 ii, .int .i64 z, .slice ab nb cb] 49) := Lib.hid (Blk.new w #[.int .i64 kd, .int .i64 ii, .int .i64 z, .slice ab nb cb] 49)
  have ho0 : Only (fun _ => False) w (w.alloc (.cells #[.int .i64 kd, .int .i64 ii, .int .i64 z, .slice ab nb cb] 49)) := (Only.refl _ w).alloc _
  have D1 := Lib.hid (h.d.only ho0 fun _ _ => id)
  have K1 := Lib.hid (h.b.only ho0 fun _ _ => id)
  have X1 := Lib.hid (hx.only ho0 fun _ _ => id)
  have B1 := Lib.hid (ho0.toBelow (B := B) (fun _ h => h.elim) h.lw)
  have O1 : Hid (Only (fun j => dkp g a j ∨ bkp k ka j) w (w.alloc (.cells #[.int .i64 kd, .int .i64 ii, .int .i64 z, .slice ab nb cb] 49))) := Lib.hid ((Only.refl _ w).alloc _)
  have HT := Lib.hid h
  have hlt : w.heap.size < (w.alloc (.cells #[.int .i64 kd, .int .i64 ii, .int .i64 z, .slice ab nb cb] 49)).heap.size := by simp
  have hgs : Hid (g ≠ w.heap.size ∧ k ≠ w.heap.size) := Lib.hid ⟨Nat.ne_of_lt h.d.head.lt, Nat.ne_of_lt h.b.head.lt⟩
  have hab' := Lib.hid hab
  rw [← hm] at K1
  have HM := Lib.hid hm
  clear hm h hx hab
  go_enter Try.func28, Try.ntmps28
  go_upto_region 1 with fail
  generalize hgx : w.heap.size = gx at *
  have HGX := Lib.hid hgx
  clear hgx ho0
  generalize w.alloc (.cells #[.int .i64 kd, .int .i64 ii, .int .i64 z, .slice ab nb cb] 49) = W at *
  have a1 : W.cell? ⟨gx, 1, none⟩ = some (.int .i64 ii) := HA.out.cell 1
  have a3 : W.cell? ⟨gx, 3, none⟩ = some (.slice ab nb cb) := HA.out.cell 3
  obtain ⟨k0, k1, k2, k3⟩ := K1.out.cells
  go_region
  clear q1 q2 q3 et ew
  have D2 : Hid (Dsk W.drew g a n c bs (-1) false tw) := Lib.hid ⟨D1.out.head, D1.out.len, D1.out.cap, D1.out.few, D1.out.lo, D1.out.hi, D1.out.sec⟩
  have K2 : Hid (Bok W.drew k ka m kc bs (-1) false tw) := Lib.hid ⟨K1.out.head, K1.out.len, K1.out.cap, K1.out.sec⟩
  have X2 : Hid (Sl W.drew ab nb 1 (bcells xs)) := X1
  have A2 : Hid (Blk W.drew gx [.int .i64 kd, .int .i64 ii, .int .i64 z, .slice ab nb cb] 49) := HA
  have B2 := Lib.hid B1.out.drew
  have O2 := Lib.hid O1.out.drew
  have hz2 : gx < W.drew.heap.size := hlt
  clear D1 K1 X1 HA B1 O1 k0 k1 k2 k3 a1 a3 hlt
  generalize W.drew = W at *
  obtain ⟨k0, k1, k2, k3⟩ := K2.out.cells
  have f1 := K2.out.head.froz 1
  have f2 := K2.out.head.froz 2
  have K3 : Hid (Bok W k ka m kc bs (-1) false tw) := Lib.hid K2.out
  have O3 : Hid (Only (bkp k ka) W W) := Lib.hid (Only.refl (bkp k ka) W)
  go_upto_region 9 with fail
  clear k0 k1 k2 k3 f1 f2
  have hm0 : 0 < m := by have := HM.out; have := HIN.out; omega
  obtain ⟨s, hka, hsk⟩ := K3.out.at_ hm0
  have hsg : s ≠ gx := by
    rcases HT.out.b.sec with h0 | ⟨s', sp, ha', hb, hn⟩
    · have := HIN.out; omega
    · rw [hka] at ha'; cases ha'
      have := hb.lt
      have := HGX.out
      omega
  have HP : Hid (¬ bkp k ka gx) := Lib.hid (by
    rintro (e | ⟨t, ht, e⟩)
    · exact hgs.out.2 e.symm
    · rw [hka] at ht; cases ht; exact hsg e.symm)
  have HX9 : Hid (∀ x, ab = some x → ¬ bkp k ka x.block) := Lib.hid (fun x hx hb => by have := hab'.out x hx; have := HT.out.lob _ hb; omega)
  obtain ⟨K, hK⟩ : ∃ K : Nat, K = 32 := ⟨_, rfl⟩
  have HK := Lib.hid (show K ≤ 32 by omega)
  have HKE := Lib.hid hK
  have BS0 : setSeg bs (32 * i) (xs.take 0) = bs := by rw [List.take_zero, setSeg_nil]
  have K4 : Hid (Bok W k ka m kc (setSeg bs (32 * i) (xs.take 0)) (-1) false tw) := by rw [BS0]; exact K3
  clear BS0 hm0 hK
  go_wp2_with fail
  go_loopg [8] K (fun qq s8 wr => ∃ j : Nat, qq + j = K ∧ s8 = .int .i64 j ∧ Hid (Bok wr k ka m kc (setSeg bs (32 * i) (xs.take j)) (-1) false tw) ∧ Hid (Only (bkp k ka) W wr))
  case atStart => exact ⟨0, by omega, rfl, K4, Lib.hid (Only.refl _ _)⟩
  case round =>
    obtain ⟨j, hqj, rfl, KJ, OJ⟩ := hrel
    have AJ := Lib.hid ((A2.out.only O3.out HP.out).only OJ.out HP.out)
    have XJ := Lib.hid ((X2.out.only O3.out HX9.out).only OJ.out HX9.out)
    by_cases hjk : j < K
    · have hj32 : j < 32 := by have := HK.out; omega
      obtain ⟨_, b1, o1, hab1, hb1, hcl⟩ := XJ.out.byte (by have := HNB.out; omega)
      subst hab1
      have cx := hcl j (by have := HNB.out; omega)
      have a1 := AJ.out.cell 1
      have a1 : wr.cell? ⟨gx, 1, none⟩ = some (.int .i64 ii) := a1
      have a3 : wr.cell? ⟨gx, 3, none⟩ = some (.slice (some ⟨b1, o1, none⟩) nb cb) := AJ.out.cell 3
      have k0 := KJ.out.cells.1
      rw [hka] at k0
      obtain ⟨zz, hzz⟩ : ∃ zz : Nat, zz = 32 * i + j := ⟨_, rfl⟩
      have hzm : zz < m := by have := HM.out; have := HIN.out; omega
      obtain ⟨cy, fy, _⟩ := KJ.out.byte hka zz hzm
      have KN := Lib.hid (KJ.out.set_byte hka zz (xs.getD j 0) hzm)
      have KS := Lib.hid (setSeg_step (bs := bs) (xs := xs) (o := 32 * i) (j := j) (by have := HXL.out; omega) (by have := HXL.out; have := HM.out; have := HIN.out; have := KJ.out.len; have hb := HT.out.b.len; omega))
      rw [hzz, KS.out, ← hzz] at KN
      have ON := Lib.hid (OJ.out.setCell (g := s) (Or.inr ⟨_, hka, rfl⟩) zz (.int .u8 ((xs.getD j 0).toNat : Int)))
      generalize (xs.getD j 0).toNat = xv at *
      have few := HT.out.d.few
      have e1 : IntKind.i64.wrap (32 * ii) = 32 * ii := (IntKind.wrap_i64 _).trans (by have := HII.out; have := HIN.out; omega)
      have e2 : IntKind.i64.wrap (32 * ii + (j : Int)) = (zz : Int) := (IntKind.wrap_i64 _).trans (by have := HII.out; have := HIN.out; omega)
      have i1 : (0 : Int) ≤ (zz : Int) := by omega
      have i2 : (zz : Int) < m := by omega
      have i3 : (0 : Int) ≤ j := by omega
      have i4 : (j : Int) < nb := by have := HNB.out; omega
      have i5 : (j : Int) < 32 := by have := HKE.out; omega
      have i6 : (j : Int) < 1000 := by omega
      have HQ := Lib.hid (And.intro hqj hjk)
      clear hqj hjk hj32 hcl hzz hzm few hb1
      go_upto_region 12 with fail
      go_region
      go_wp2_with fail
      go_roundg (gk - 1)
      case measure => have := HQ.out; omega
      case rel => exact ⟨j + 1, by have := HQ.out; omega, by go_num, Lib.hid ⟨KN.out.head, KN.out.len, KN.out.cap, KN.out.sec⟩, Lib.hid ⟨ON.out.os, ON.out.tape, ON.out.output, ON.out.size, ON.out.block⟩⟩
    · have hjk' : j = K := by omega
      subst hjk'
      have i5 : ¬ (j : Int) < 32 := by have := HKE.out; omega
      obtain ⟨k0, k1, k2, k3⟩ := KJ.out.cells
      have f1 := KJ.out.head.froz 1
      have f3 := KJ.out.head.froz 3
      have KF := Lib.hid (KJ.out.set_wr (wrap64 (tw + 32)))
      have OF := Lib.hid (OJ.out.setCell (g := k) (Or.inl rfl) 3 (.int .i64 (wrap64 (tw + 32))))
      go_upto_region 16 with fail
      generalize wr.setCell ⟨k, 3, none⟩ (.int .i64 (wrap64 (tw + 32))) = WF at *
      clear k0 k1 k2 k3 f1 f3 i5
      have OA := Lib.hid (O3.out.trans OF.out)
      have AF := Lib.hid (A2.out.only OA.out HP.out)
      have XF := Lib.hid (X2.out.only OA.out HX9.out)
      have DF := Lib.hid (D2.out.only OA.out (fun q hd hb => HT.out.disj q hb hd))
      have NK : Hid (¬ dkp g a k) := Lib.hid (HT.out.disj k (Or.inl rfl))
      have NG : Hid (¬ dkp g a gx) := Lib.hid (by
        rintro (e | ⟨t, ht, e⟩)
        · exact hgs.out.1 e.symm
        · rcases HT.out.d.sec with h0 | ⟨s', sp, ha', hb, hn⟩
          · have := HIN.out; omega
          · rw [ha'] at ht; cases ht
            have := hb.lt
            have := HGX.out
            have e' : gx = s' := e
            omega)
      have WRI : Hid (Calls Try.prog 17 #[.pointer (some ⟨g, 0, none⟩), .int .i64 ii, .slice ab nb cb] WF.drew fun e w' => e = .returned (.bool true) ∧ Dsk w' g a n c (setSeg bs (32 * i) xs) (-1) false (wrap64 (tw + 32)) ∧ Only (dkp g a) WF.drew w') := Lib.hid (by
        rw [HII.out, HNB.out]
        have hx : Sl WF.drew ab 32 1 (bcells xs) := by have := XF.out; rw [HNB.out] at this; exact this
        exact write_full (show Dsk WF.drew g a n c bs (-1) false tw from ⟨DF.out.head, DF.out.len, DF.out.cap, DF.out.few, DF.out.lo, DF.out.hi, DF.out.sec⟩) i (by have := HIN.out; omega) ab cb xs hx)
      refine held_begin (fun w' => Blk w' k (bkc ka m kc (-1) false (wrap64 (tw + 32))) 35 ∧ Blk w' gx [.int .i64 kd, .int .i64 ii, .int .i64 z, .slice ab nb cb] 49) 13 [false, false, false, false, false, false, false, false, false, false, false, false, false] (by kernel_rfl) rfl (by rfl) ?_
      have hHeld : Blk WF.drew k (bkc ka m kc (-1) false (wrap64 (tw + 32))) 35 ∧ Blk WF.drew gx [.int .i64 kd, .int .i64 ii, .int .i64 z, .slice ab nb cb] 49 := ⟨KF.out.head.drew, AF.out.drew⟩
      refine held_take (v := ?_) 0 110 [true, false, false, false, false, false, false, false, false, false, false, false, false] rfl (by rfl) (by rfl) (by kernel_rfl) (by kernel_rfl) (by kernel_rfl) (by rfl) (fun _ _ _ h => h) ?_ hHeld ?_
      rotate_left
      · intro w hSw; go_simp <;> with_reducible rfl
      simp only [Act.put, List.setIfInBounds_toArray, List.set_cons_zero, List.set_cons_succ]
      refine held_take (v := ?_) 1 111 [true, true, false, false, false, false, false, false, false, false, false, false, false] rfl (by rfl) (by rfl) (by kernel_rfl) (by kernel_rfl) (by kernel_rfl) (by rfl) (fun _ _ _ h => h) ?_ hHeld ?_
      rotate_left
      · intro w hSw; go_simp <;> with_reducible rfl
      simp only [Act.put, List.setIfInBounds_toArray, List.set_cons_zero, List.set_cons_succ]
      refine held_take (v := .int .i64 ii) 2 112 [true, true, true, false, false, false, false, false, false, false, false, false, false] rfl (by rfl) (by rfl) (by kernel_rfl) (by kernel_rfl) (by kernel_rfl) (by rfl) (fun _ _ _ h => h) (fun w' h => run_op_oneD rfl rfl Try.underlying3 rfl (h.2.cell 1)) hHeld ?_
      simp only [Act.put, List.setIfInBounds_toArray, List.set_cons_zero, List.set_cons_succ]
      refine held_take (v := ?_) 3 113 [true, true, true, true, false, false, false, false, false, false, false, false, false] rfl (by rfl) (by rfl) (by kernel_rfl) (by kernel_rfl) (by kernel_rfl) (by rfl) (fun _ _ _ h => h) ?_ hHeld ?_
      rotate_left
      · intro w hSw; go_simp <;> with_reducible rfl
      simp only [Act.put, List.setIfInBounds_toArray, List.set_cons_zero, List.set_cons_succ]
      refine held_take (v := .slice ab nb cb) 4 114 [true, true, true, true, true, false, false, false, false, false, false, false, false] rfl (by rfl) (by rfl) (by kernel_rfl) (by kernel_rfl) (by kernel_rfl) (by rfl) (fun _ _ _ h => h) (fun w' h => run_op_oneD rfl rfl Try.underlying33 rfl (h.2.cell 3)) hHeld ?_
      simp only [Act.put, List.setIfInBounds_toArray, List.set_cons_zero, List.set_cons_succ]
      refine held_take (v := ?_) 6 116 [true, true, true, true, true, false, true, false, false, false, false, false, false] rfl (by rfl) (by rfl) (by kernel_rfl) (by kernel_rfl) (by kernel_rfl) (by rfl) (fun _ _ _ h => h) ?_ hHeld ?_
      rotate_left
      · intro w hSw; go_simp <;> with_reducible rfl
      simp only [Act.put, List.setIfInBounds_toArray, List.set_cons_zero, List.set_cons_succ]
      refine held_take (v := ?_) 7 117 [true, true, true, true, true, false, true, true, false, false, false, false, false] rfl (by rfl) (by rfl) (by kernel_rfl) (by kernel_rfl) (by kernel_rfl) (by rfl) (fun _ _ _ h => h) ?_ hHeld ?_
      rotate_left
      · intro w hSw; go_simp <;> with_reducible rfl
      simp only [Act.put, List.setIfInBounds_toArray, List.set_cons_zero, List.set_cons_succ]
      refine held_take (v := ?_) 8 118 [true, true, true, true, true, false, true, true, true, false, false, false, false] rfl (by rfl) (by rfl) (by kernel_rfl) (by kernel_rfl) (by kernel_rfl) (by rfl) (fun _ _ _ h => h) ?_ hHeld ?_
      rotate_left
      · intro w hSw; go_simp <;> with_reducible rfl
      simp only [Act.put, List.setIfInBounds_toArray, List.set_cons_zero, List.set_cons_succ]
      refine held_take (v := .bool false) 9 119 [true, true, true, true, true, false, true, true, true, true, false, false, false] rfl (by rfl) (by rfl) (by kernel_rfl) (by kernel_rfl) (by kernel_rfl) (by rfl) (fun _ _ _ h => h) (fun w' h => run_op_oneD rfl rfl Try.underlying4 rfl (h.1.cell 2)) hHeld ?_
      simp only [Act.put, List.setIfInBounds_toArray, List.set_cons_zero, List.set_cons_succ]
      refine held_take (v := .bool true) 10 120 [true, true, true, true, true, false, true, true, true, true, true, false, false] rfl (by rfl) (by rfl) (by kernel_rfl) (by kernel_rfl) (by kernel_rfl) (by rfl) (fun _ _ _ h => h) (fun w' h => by go_simp) hHeld ?_
      simp only [Act.put, List.setIfInBounds_toArray, List.set_cons_zero, List.set_cons_succ]
      refine held_call 5 115 [true, true, true, true, true, true, true, true, true, true, true, false, false] (by kernel_rfl) rfl (by rfl) (by rfl) (by rfl) (by go_simp) ((WRI.out).mono ?_)
      rintro e w2 ⟨rfl, hd2, ho2⟩
      refine ⟨_, rfl, ⟨hHeld.1.only ho2 NK.out, hHeld.2.only ho2 NG.out⟩, fun hHeld => ?_⟩
      simp only [Act.put, List.setIfInBounds_toArray, List.set_cons_zero, List.set_cons_succ]
      refine held_take (v := .bool true) 11 121 [true, true, true, true, true, true, true, true, true, true, true, true, false] rfl (by rfl) (by rfl) (by kernel_rfl) (by kernel_rfl) (by kernel_rfl) (by rfl) (fun _ _ _ h => h) (fun w' h => by go_simp) hHeld ?_
      simp only [Act.put, List.setIfInBounds_toArray, List.set_cons_zero, List.set_cons_succ]
      refine held_take (v := ?_) 12 6 [true, true, true, true, true, true, true, true, true, true, true, true, true] rfl (by rfl) (by rfl) (by kernel_rfl) (by kernel_rfl) (by kernel_rfl) (by rfl) (fun _ _ _ h => h) ?_ hHeld ?_
      rotate_left
      · intro w hSw; go_simp <;> with_reducible rfl
      simp only [Act.put, List.setIfInBounds_toArray, List.set_cons_zero, List.set_cons_succ]
      refine held_done (by kernel_rfl) ?_
      have R2 := Lib.hid (And.intro hd2 ho2)
      clear hd2 ho2 hHeld
      go_wp2_with fail
      go_ret
      have OD := (Only.refl (bkp k ka) WF).drew
      have XT : xs.take j = xs := by rw [HKE.out]; exact List.take_of_length_le (by have := HXL.out; omega)
      have KF2 : Bok WF.drew k ka m kc (setSeg bs (32 * i) xs) (-1) false (wrap64 (tw + 32)) := by have := KF.out; rw [XT] at this; exact ⟨this.head, this.len, this.cap, this.sec⟩
      have KF3 := KF2.only R2.out.2 HT.out.disj
      rw [HM.out] at KF3
      have BB : Below B w w2 := B2.out.trans (((OA.out.trans OD).toBelow HT.out.lob (Nat.le_trans HT.out.lw B2.out.size)).trans (R2.out.2.toBelow HT.out.lod (Nat.le_trans (Nat.le_trans HT.out.lw B2.out.size) (OA.out.trans OD).size)))
      exact ⟨rfl, ⟨_, _, _, _, ⟨R2.out.1, KF3, HT.out.kg, HT.out.ak, HT.out.kag, HT.out.aka, HT.out.lg, HT.out.lk, HT.out.la, HT.out.lka, Nat.le_trans HT.out.lw BB.size, fun j hj => Nat.lt_of_lt_of_le (HT.out.top j hj) BB.size⟩⟩, BB, O2.out.trans (((OA.out.trans OD).mono fun _ h => Or.inr h).trans (R2.out.2.mono fun _ h => Or.inl h))⟩
set_option maxRecDepth 100000 in
set_option maxHeartbeats 4000000 in
theorem bwrite_more {B g n c k kc : Nat} {a ka : Option Addr} {bs : List UInt8} {left : Int} {tw : Int} {w : World} (h : Two w B g a n c k ka kc bs left false tw) (kd z : Int) (i : Nat) (ab : Option Addr) (cb : Nat) (xs : List UInt8) (hx : Sl w ab 32 1 (bcells xs)) (hnc : 32 ≤ cb) (hab : ∀ x, ab = some x → x.block < B) (hin : i < n) (hl : 32 ≤ left) :
    Calls Try.prog 28 #[.pointer (some ⟨k, 0, none⟩), .pointer (some ⟨g, 0, none⟩), .agg #[.int .i64 kd, .int .i64 (i : Int), .int .i64 z, .slice ab 32 cb]] w fun e w' => e = .returned (.bool true) ∧ (∃ bs' left' dead' wr, Two w' B g a n c k ka kc bs' left' dead' wr) ∧ Below B w w' ∧ Only (fun j => dkp g a j ∨ bkp k ka j) w w' := by
  obtain ⟨ii, hii⟩ : ∃ ii : Int, ii = i := ⟨_, rfl⟩
  obtain ⟨nb, hnb⟩ : ∃ nb : Nat, nb = 32 := ⟨_, rfl⟩
  rw [← hii, ← hnb]
  rw [← hnb] at hx
  have hxl : xs.length = 32 := by have := sl_oneD hx; omega
  have HXL := Lib.hid hxl
  have HII := Lib.hid hii
  have HNB := Lib.hid hnb
  have HIN := Lib.hid hin
  have HNC := Lib.hid hnc
  have q1 : ¬ ii < 0 := by omega
  have q2 : ¬ (n : Int) ≤ ii := by omega
  have q3 : (nb : Int) = 32 := by omega
  clear hxl hii hnb hin hnc
  have HL := Lib.hid hl
  clear hl
  obtain ⟨m, hm⟩ : ∃ m, m = 32 * n := ⟨_, rfl⟩
  have ew : IntKind.i64.wrap (n : Int) = n := (IntKind.wrap_i64 (n : Int)).trans (by have := h.d.few; omega)
  have et : (m : Int).tdiv 32 = n := by rw [Int.tdiv_eq_ediv_of_nonneg (by omega)]; omega
  have HA : Hid (Blk (w.alloc (.cells #[.int .i64 kd, .int .i64 ii, .int .i64 z, .slice ab nb cb] 49)) w.heap.size [.int .i64 kd, .int .i64 ii, .int .i64 z, .slice ab nb cb] 49) := Lib.hid (Blk.new w #[.int .i64 kd, .int .i64 ii, .int .i64 z, .slice ab nb cb] 49)
  have ho0 : Only (fun _ => False) w (w.alloc (.cells #[.int .i64 kd, .int .i64 ii, .int .i64 z, .slice ab nb cb] 49)) := (Only.refl _ w).alloc _
  have D1 := Lib.hid (h.d.only ho0 fun _ _ => id)
  have K1 := Lib.hid (h.b.only ho0 fun _ _ => id)
  have X1 := Lib.hid (hx.only ho0 fun _ _ => id)
  have B1 := Lib.hid (ho0.toBelow (B := B) (fun _ h => h.elim) h.lw)
  have O1 : Hid (Only (fun j => dkp g a j ∨ bkp k ka j) w (w.alloc (.cells #[.int .i64 kd, .int .i64 ii, .int .i64 z, .slice ab nb cb] 49))) := Lib.hid ((Only.refl _ w).alloc _)
  have HT := Lib.hid h
  have hlt : w.heap.size < (w.alloc (.cells #[.int .i64 kd, .int .i64 ii, .int .i64 z, .slice ab nb cb] 49)).heap.size := by simp
  have hgs : Hid (g ≠ w.heap.size ∧ k ≠ w.heap.size) := Lib.hid ⟨Nat.ne_of_lt h.d.head.lt, Nat.ne_of_lt h.b.head.lt⟩
  have hab' := Lib.hid hab
  rw [← hm] at K1
  have HM := Lib.hid hm
  clear hm h hx hab
  go_enter Try.func28, Try.ntmps28
  go_upto_region 1 with fail
  generalize hgx : w.heap.size = gx at *
  have HGX := Lib.hid hgx
  clear hgx ho0
  generalize w.alloc (.cells #[.int .i64 kd, .int .i64 ii, .int .i64 z, .slice ab nb cb] 49) = W at *
  have a1 : W.cell? ⟨gx, 1, none⟩ = some (.int .i64 ii) := HA.out.cell 1
  have a3 : W.cell? ⟨gx, 3, none⟩ = some (.slice ab nb cb) := HA.out.cell 3
  obtain ⟨k0, k1, k2, k3⟩ := K1.out.cells
  go_region
  clear q1 q2 q3 et ew
  have D2 : Hid (Dsk W.drew g a n c bs left false tw) := Lib.hid ⟨D1.out.head, D1.out.len, D1.out.cap, D1.out.few, D1.out.lo, D1.out.hi, D1.out.sec⟩
  have K2 : Hid (Bok W.drew k ka m kc bs left false tw) := Lib.hid ⟨K1.out.head, K1.out.len, K1.out.cap, K1.out.sec⟩
  have X2 : Hid (Sl W.drew ab nb 1 (bcells xs)) := X1
  have A2 : Hid (Blk W.drew gx [.int .i64 kd, .int .i64 ii, .int .i64 z, .slice ab nb cb] 49) := HA
  have B2 := Lib.hid B1.out.drew
  have O2 := Lib.hid O1.out.drew
  have hz2 : gx < W.drew.heap.size := hlt
  clear D1 K1 X1 HA B1 O1 k0 k1 k2 k3 a1 a3 hlt
  generalize W.drew = W at *
  obtain ⟨k0, k1, k2, k3⟩ := K2.out.cells
  have f1 := K2.out.head.froz 1
  have f2 := K2.out.head.froz 2
  have t1 : (0 : Int) ≤ left := by have := HL.out; omega
  have t2 : ¬ left < 32 := by have := HL.out; omega
  have t3 := D2.out.hi
  have K3 : Hid (Bok (W.setCell ⟨k, 1, none⟩ (.int .i64 (left - 32))) k ka m kc bs (left - 32) false tw) := Lib.hid (K2.out.set_fuel (left - 32))
  have O3 : Hid (Only (bkp k ka) W (W.setCell ⟨k, 1, none⟩ (.int .i64 (left - 32)))) := Lib.hid (((Only.refl (bkp k ka) W).setCell (g := k) (Or.inl rfl) 1 (.int .i64 (left - 32))))
  go_upto_region 9 with fail
  generalize (W.setCell ⟨k, 1, none⟩ (.int .i64 (left - 32))) = W3 at *
  clear k0 k1 k2 k3 f1 f2 t1 t2 t3
  have hm0 : 0 < m := by have := HM.out; have := HIN.out; omega
  obtain ⟨s, hka, hsk⟩ := K3.out.at_ hm0
  have hsg : s ≠ gx := by
    rcases HT.out.b.sec with h0 | ⟨s', sp, ha', hb, hn⟩
    · have := HIN.out; omega
    · rw [hka] at ha'; cases ha'
      have := hb.lt
      have := HGX.out
      omega
  have HP : Hid (¬ bkp k ka gx) := Lib.hid (by
    rintro (e | ⟨t, ht, e⟩)
    · exact hgs.out.2 e.symm
    · rw [hka] at ht; cases ht; exact hsg e.symm)
  have HX9 : Hid (∀ x, ab = some x → ¬ bkp k ka x.block) := Lib.hid (fun x hx hb => by have := hab'.out x hx; have := HT.out.lob _ hb; omega)
  obtain ⟨K, hK⟩ : ∃ K : Nat, K = 32 := ⟨_, rfl⟩
  have HK := Lib.hid (show K ≤ 32 by omega)
  have HKE := Lib.hid hK
  have BS0 : setSeg bs (32 * i) (xs.take 0) = bs := by rw [List.take_zero, setSeg_nil]
  have K4 : Hid (Bok W3 k ka m kc (setSeg bs (32 * i) (xs.take 0)) (left - 32) false tw) := by rw [BS0]; exact K3
  clear BS0 hm0 hK
  go_wp2_with fail
  go_loopg [8] K (fun qq s8 wr => ∃ j : Nat, qq + j = K ∧ s8 = .int .i64 j ∧ Hid (Bok wr k ka m kc (setSeg bs (32 * i) (xs.take j)) (left - 32) false tw) ∧ Hid (Only (bkp k ka) W3 wr))
  case atStart => exact ⟨0, by omega, rfl, K4, Lib.hid (Only.refl _ _)⟩
  case round =>
    obtain ⟨j, hqj, rfl, KJ, OJ⟩ := hrel
    have AJ := Lib.hid ((A2.out.only O3.out HP.out).only OJ.out HP.out)
    have XJ := Lib.hid ((X2.out.only O3.out HX9.out).only OJ.out HX9.out)
    by_cases hjk : j < K
    · have hj32 : j < 32 := by have := HK.out; omega
      obtain ⟨_, b1, o1, hab1, hb1, hcl⟩ := XJ.out.byte (by have := HNB.out; omega)
      subst hab1
      have cx := hcl j (by have := HNB.out; omega)
      have a1 := AJ.out.cell 1
      have a1 : wr.cell? ⟨gx, 1, none⟩ = some (.int .i64 ii) := a1
      have a3 : wr.cell? ⟨gx, 3, none⟩ = some (.slice (some ⟨b1, o1, none⟩) nb cb) := AJ.out.cell 3
      have k0 := KJ.out.cells.1
      rw [hka] at k0
      obtain ⟨zz, hzz⟩ : ∃ zz : Nat, zz = 32 * i + j := ⟨_, rfl⟩
      have hzm : zz < m := by have := HM.out; have := HIN.out; omega
      obtain ⟨cy, fy, _⟩ := KJ.out.byte hka zz hzm
      have KN := Lib.hid (KJ.out.set_byte hka zz (xs.getD j 0) hzm)
      have KS := Lib.hid (setSeg_step (bs := bs) (xs := xs) (o := 32 * i) (j := j) (by have := HXL.out; omega) (by have := HXL.out; have := HM.out; have := HIN.out; have := KJ.out.len; have hb := HT.out.b.len; omega))
      rw [hzz, KS.out, ← hzz] at KN
      have ON := Lib.hid (OJ.out.setCell (g := s) (Or.inr ⟨_, hka, rfl⟩) zz (.int .u8 ((xs.getD j 0).toNat : Int)))
      generalize (xs.getD j 0).toNat = xv at *
      have few := HT.out.d.few
      have e1 : IntKind.i64.wrap (32 * ii) = 32 * ii := (IntKind.wrap_i64 _).trans (by have := HII.out; have := HIN.out; omega)
      have e2 : IntKind.i64.wrap (32 * ii + (j : Int)) = (zz : Int) := (IntKind.wrap_i64 _).trans (by have := HII.out; have := HIN.out; omega)
      have i1 : (0 : Int) ≤ (zz : Int) := by omega
      have i2 : (zz : Int) < m := by omega
      have i3 : (0 : Int) ≤ j := by omega
      have i4 : (j : Int) < nb := by have := HNB.out; omega
      have i5 : (j : Int) < 32 := by have := HKE.out; omega
      have i6 : (j : Int) < 1000 := by omega
      have HQ := Lib.hid (And.intro hqj hjk)
      clear hqj hjk hj32 hcl hzz hzm few hb1
      go_upto_region 12 with fail
      go_region
      go_wp2_with fail
      go_roundg (gk - 1)
      case measure => have := HQ.out; omega
      case rel => exact ⟨j + 1, by have := HQ.out; omega, by go_num, Lib.hid ⟨KN.out.head, KN.out.len, KN.out.cap, KN.out.sec⟩, Lib.hid ⟨ON.out.os, ON.out.tape, ON.out.output, ON.out.size, ON.out.block⟩⟩
    · have hjk' : j = K := by omega
      subst hjk'
      have i5 : ¬ (j : Int) < 32 := by have := HKE.out; omega
      obtain ⟨k0, k1, k2, k3⟩ := KJ.out.cells
      have f1 := KJ.out.head.froz 1
      have f3 := KJ.out.head.froz 3
      have KF := Lib.hid (KJ.out.set_wr (wrap64 (tw + 32)))
      have OF := Lib.hid (OJ.out.setCell (g := k) (Or.inl rfl) 3 (.int .i64 (wrap64 (tw + 32))))
      go_upto_region 16 with fail
      generalize wr.setCell ⟨k, 3, none⟩ (.int .i64 (wrap64 (tw + 32))) = WF at *
      clear k0 k1 k2 k3 f1 f3 i5
      have OA := Lib.hid (O3.out.trans OF.out)
      have AF := Lib.hid (A2.out.only OA.out HP.out)
      have XF := Lib.hid (X2.out.only OA.out HX9.out)
      have DF := Lib.hid (D2.out.only OA.out (fun q hd hb => HT.out.disj q hb hd))
      have NK : Hid (¬ dkp g a k) := Lib.hid (HT.out.disj k (Or.inl rfl))
      have NG : Hid (¬ dkp g a gx) := Lib.hid (by
        rintro (e | ⟨t, ht, e⟩)
        · exact hgs.out.1 e.symm
        · rcases HT.out.d.sec with h0 | ⟨s', sp, ha', hb, hn⟩
          · have := HIN.out; omega
          · rw [ha'] at ht; cases ht
            have := hb.lt
            have := HGX.out
            have e' : gx = s' := e
            omega)
      have WRI : Hid (Calls Try.prog 17 #[.pointer (some ⟨g, 0, none⟩), .int .i64 ii, .slice ab nb cb] WF.drew fun e w' => e = .returned (.bool true) ∧ Dsk w' g a n c (setSeg bs (32 * i) xs) (left - 32) false (wrap64 (tw + 32)) ∧ Only (dkp g a) WF.drew w') := Lib.hid (by
        rw [HII.out, HNB.out]
        have hx : Sl WF.drew ab 32 1 (bcells xs) := by have := XF.out; rw [HNB.out] at this; exact this
        exact write_more (show Dsk WF.drew g a n c bs left false tw from ⟨DF.out.head, DF.out.len, DF.out.cap, DF.out.few, DF.out.lo, DF.out.hi, DF.out.sec⟩) HL.out i (by have := HIN.out; omega) ab cb xs hx)
      refine held_begin (fun w' => Blk w' k (bkc ka m kc (left - 32) false (wrap64 (tw + 32))) 35 ∧ Blk w' gx [.int .i64 kd, .int .i64 ii, .int .i64 z, .slice ab nb cb] 49) 13 [false, false, false, false, false, false, false, false, false, false, false, false, false] (by kernel_rfl) rfl (by rfl) ?_
      have hHeld : Blk WF.drew k (bkc ka m kc (left - 32) false (wrap64 (tw + 32))) 35 ∧ Blk WF.drew gx [.int .i64 kd, .int .i64 ii, .int .i64 z, .slice ab nb cb] 49 := ⟨KF.out.head.drew, AF.out.drew⟩
      refine held_take (v := ?_) 0 110 [true, false, false, false, false, false, false, false, false, false, false, false, false] rfl (by rfl) (by rfl) (by kernel_rfl) (by kernel_rfl) (by kernel_rfl) (by rfl) (fun _ _ _ h => h) ?_ hHeld ?_
      rotate_left
      · intro w hSw; go_simp <;> with_reducible rfl
      simp only [Act.put, List.setIfInBounds_toArray, List.set_cons_zero, List.set_cons_succ]
      refine held_take (v := ?_) 1 111 [true, true, false, false, false, false, false, false, false, false, false, false, false] rfl (by rfl) (by rfl) (by kernel_rfl) (by kernel_rfl) (by kernel_rfl) (by rfl) (fun _ _ _ h => h) ?_ hHeld ?_
      rotate_left
      · intro w hSw; go_simp <;> with_reducible rfl
      simp only [Act.put, List.setIfInBounds_toArray, List.set_cons_zero, List.set_cons_succ]
      refine held_take (v := .int .i64 ii) 2 112 [true, true, true, false, false, false, false, false, false, false, false, false, false] rfl (by rfl) (by rfl) (by kernel_rfl) (by kernel_rfl) (by kernel_rfl) (by rfl) (fun _ _ _ h => h) (fun w' h => run_op_oneD rfl rfl Try.underlying3 rfl (h.2.cell 1)) hHeld ?_
      simp only [Act.put, List.setIfInBounds_toArray, List.set_cons_zero, List.set_cons_succ]
      refine held_take (v := ?_) 3 113 [true, true, true, true, false, false, false, false, false, false, false, false, false] rfl (by rfl) (by rfl) (by kernel_rfl) (by kernel_rfl) (by kernel_rfl) (by rfl) (fun _ _ _ h => h) ?_ hHeld ?_
      rotate_left
      · intro w hSw; go_simp <;> with_reducible rfl
      simp only [Act.put, List.setIfInBounds_toArray, List.set_cons_zero, List.set_cons_succ]
      refine held_take (v := .slice ab nb cb) 4 114 [true, true, true, true, true, false, false, false, false, false, false, false, false] rfl (by rfl) (by rfl) (by kernel_rfl) (by kernel_rfl) (by kernel_rfl) (by rfl) (fun _ _ _ h => h) (fun w' h => run_op_oneD rfl rfl Try.underlying33 rfl (h.2.cell 3)) hHeld ?_
      simp only [Act.put, List.setIfInBounds_toArray, List.set_cons_zero, List.set_cons_succ]
      refine held_take (v := ?_) 6 116 [true, true, true, true, true, false, true, false, false, false, false, false, false] rfl (by rfl) (by rfl) (by kernel_rfl) (by kernel_rfl) (by kernel_rfl) (by rfl) (fun _ _ _ h => h) ?_ hHeld ?_
      rotate_left
      · intro w hSw; go_simp <;> with_reducible rfl
      simp only [Act.put, List.setIfInBounds_toArray, List.set_cons_zero, List.set_cons_succ]
      refine held_take (v := ?_) 7 117 [true, true, true, true, true, false, true, true, false, false, false, false, false] rfl (by rfl) (by rfl) (by kernel_rfl) (by kernel_rfl) (by kernel_rfl) (by rfl) (fun _ _ _ h => h) ?_ hHeld ?_
      rotate_left
      · intro w hSw; go_simp <;> with_reducible rfl
      simp only [Act.put, List.setIfInBounds_toArray, List.set_cons_zero, List.set_cons_succ]
      refine held_take (v := ?_) 8 118 [true, true, true, true, true, false, true, true, true, false, false, false, false] rfl (by rfl) (by rfl) (by kernel_rfl) (by kernel_rfl) (by kernel_rfl) (by rfl) (fun _ _ _ h => h) ?_ hHeld ?_
      rotate_left
      · intro w hSw; go_simp <;> with_reducible rfl
      simp only [Act.put, List.setIfInBounds_toArray, List.set_cons_zero, List.set_cons_succ]
      refine held_take (v := .bool false) 9 119 [true, true, true, true, true, false, true, true, true, true, false, false, false] rfl (by rfl) (by rfl) (by kernel_rfl) (by kernel_rfl) (by kernel_rfl) (by rfl) (fun _ _ _ h => h) (fun w' h => run_op_oneD rfl rfl Try.underlying4 rfl (h.1.cell 2)) hHeld ?_
      simp only [Act.put, List.setIfInBounds_toArray, List.set_cons_zero, List.set_cons_succ]
      refine held_take (v := .bool true) 10 120 [true, true, true, true, true, false, true, true, true, true, true, false, false] rfl (by rfl) (by rfl) (by kernel_rfl) (by kernel_rfl) (by kernel_rfl) (by rfl) (fun _ _ _ h => h) (fun w' h => by go_simp) hHeld ?_
      simp only [Act.put, List.setIfInBounds_toArray, List.set_cons_zero, List.set_cons_succ]
      refine held_call 5 115 [true, true, true, true, true, true, true, true, true, true, true, false, false] (by kernel_rfl) rfl (by rfl) (by rfl) (by rfl) (by go_simp) ((WRI.out).mono ?_)
      rintro e w2 ⟨rfl, hd2, ho2⟩
      refine ⟨_, rfl, ⟨hHeld.1.only ho2 NK.out, hHeld.2.only ho2 NG.out⟩, fun hHeld => ?_⟩
      simp only [Act.put, List.setIfInBounds_toArray, List.set_cons_zero, List.set_cons_succ]
      refine held_take (v := .bool true) 11 121 [true, true, true, true, true, true, true, true, true, true, true, true, false] rfl (by rfl) (by rfl) (by kernel_rfl) (by kernel_rfl) (by kernel_rfl) (by rfl) (fun _ _ _ h => h) (fun w' h => by go_simp) hHeld ?_
      simp only [Act.put, List.setIfInBounds_toArray, List.set_cons_zero, List.set_cons_succ]
      refine held_take (v := ?_) 12 6 [true, true, true, true, true, true, true, true, true, true, true, true, true] rfl (by rfl) (by rfl) (by kernel_rfl) (by kernel_rfl) (by kernel_rfl) (by rfl) (fun _ _ _ h => h) ?_ hHeld ?_
      rotate_left
      · intro w hSw; go_simp <;> with_reducible rfl
      simp only [Act.put, List.setIfInBounds_toArray, List.set_cons_zero, List.set_cons_succ]
      refine held_done (by kernel_rfl) ?_
      have R2 := Lib.hid (And.intro hd2 ho2)
      clear hd2 ho2 hHeld
      go_wp2_with fail
      go_ret
      have OD := (Only.refl (bkp k ka) WF).drew
      have XT : xs.take j = xs := by rw [HKE.out]; exact List.take_of_length_le (by have := HXL.out; omega)
      have KF2 : Bok WF.drew k ka m kc (setSeg bs (32 * i) xs) (left - 32) false (wrap64 (tw + 32)) := by have := KF.out; rw [XT] at this; exact ⟨this.head, this.len, this.cap, this.sec⟩
      have KF3 := KF2.only R2.out.2 HT.out.disj
      rw [HM.out] at KF3
      have BB : Below B w w2 := B2.out.trans (((OA.out.trans OD).toBelow HT.out.lob (Nat.le_trans HT.out.lw B2.out.size)).trans (R2.out.2.toBelow HT.out.lod (Nat.le_trans (Nat.le_trans HT.out.lw B2.out.size) (OA.out.trans OD).size)))
      exact ⟨rfl, ⟨_, _, _, _, ⟨R2.out.1, KF3, HT.out.kg, HT.out.ak, HT.out.kag, HT.out.aka, HT.out.lg, HT.out.lk, HT.out.la, HT.out.lka, Nat.le_trans HT.out.lw BB.size, fun j hj => Nat.lt_of_lt_of_le (HT.out.top j hj) BB.size⟩⟩, BB, O2.out.trans (((OA.out.trans OD).mono fun _ h => Or.inr h).trans (R2.out.2.mono fun _ h => Or.inl h))⟩
set_option maxRecDepth 100000 in
set_option maxHeartbeats 4000000 in
theorem bwrite_cut {B g n c k kc : Nat} {a ka : Option Addr} {bs : List UInt8} {kk : Nat} {tw : Int} {w : World} (h : Two w B g a n c k ka kc bs (kk : Int) false tw) (kd z : Int) (i : Nat) (ab : Option Addr) (cb : Nat) (xs : List UInt8) (hx : Sl w ab 32 1 (bcells xs)) (hnc : 32 ≤ cb) (hab : ∀ x, ab = some x → x.block < B) (hin : i < n) (hl : kk < 32) :
    Calls Try.prog 28 #[.pointer (some ⟨k, 0, none⟩), .pointer (some ⟨g, 0, none⟩), .agg #[.int .i64 kd, .int .i64 (i : Int), .int .i64 z, .slice ab 32 cb]] w fun e w' => e = .returned (.bool true) ∧ (∃ bs' left' dead' wr, Two w' B g a n c k ka kc bs' left' dead' wr) ∧ Below B w w' ∧ Only (fun j => dkp g a j ∨ bkp k ka j) w w' := by
  obtain ⟨ii, hii⟩ : ∃ ii : Int, ii = i := ⟨_, rfl⟩
  obtain ⟨nb, hnb⟩ : ∃ nb : Nat, nb = 32 := ⟨_, rfl⟩
  rw [← hii, ← hnb]
  rw [← hnb] at hx
  have hxl : xs.length = 32 := by have := sl_oneD hx; omega
  have HXL := Lib.hid hxl
  have HII := Lib.hid hii
  have HNB := Lib.hid hnb
  have HIN := Lib.hid hin
  have HNC := Lib.hid hnc
  have q1 : ¬ ii < 0 := by omega
  have q2 : ¬ (n : Int) ≤ ii := by omega
  have q3 : (nb : Int) = 32 := by omega
  clear hxl hii hnb hin hnc
  have HL := Lib.hid hl
  clear hl
  obtain ⟨m, hm⟩ : ∃ m, m = 32 * n := ⟨_, rfl⟩
  have ew : IntKind.i64.wrap (n : Int) = n := (IntKind.wrap_i64 (n : Int)).trans (by have := h.d.few; omega)
  have et : (m : Int).tdiv 32 = n := by rw [Int.tdiv_eq_ediv_of_nonneg (by omega)]; omega
  have HA : Hid (Blk (w.alloc (.cells #[.int .i64 kd, .int .i64 ii, .int .i64 z, .slice ab nb cb] 49)) w.heap.size [.int .i64 kd, .int .i64 ii, .int .i64 z, .slice ab nb cb] 49) := Lib.hid (Blk.new w #[.int .i64 kd, .int .i64 ii, .int .i64 z, .slice ab nb cb] 49)
  have ho0 : Only (fun _ => False) w (w.alloc (.cells #[.int .i64 kd, .int .i64 ii, .int .i64 z, .slice ab nb cb] 49)) := (Only.refl _ w).alloc _
  have D1 := Lib.hid (h.d.only ho0 fun _ _ => id)
  have K1 := Lib.hid (h.b.only ho0 fun _ _ => id)
  have X1 := Lib.hid (hx.only ho0 fun _ _ => id)
  have B1 := Lib.hid (ho0.toBelow (B := B) (fun _ h => h.elim) h.lw)
  have O1 : Hid (Only (fun j => dkp g a j ∨ bkp k ka j) w (w.alloc (.cells #[.int .i64 kd, .int .i64 ii, .int .i64 z, .slice ab nb cb] 49))) := Lib.hid ((Only.refl _ w).alloc _)
  have HT := Lib.hid h
  have hlt : w.heap.size < (w.alloc (.cells #[.int .i64 kd, .int .i64 ii, .int .i64 z, .slice ab nb cb] 49)).heap.size := by simp
  have hgs : Hid (g ≠ w.heap.size ∧ k ≠ w.heap.size) := Lib.hid ⟨Nat.ne_of_lt h.d.head.lt, Nat.ne_of_lt h.b.head.lt⟩
  have hab' := Lib.hid hab
  rw [← hm] at K1
  have HM := Lib.hid hm
  clear hm h hx hab
  go_enter Try.func28, Try.ntmps28
  go_upto_region 1 with fail
  generalize hgx : w.heap.size = gx at *
  have HGX := Lib.hid hgx
  clear hgx ho0
  generalize w.alloc (.cells #[.int .i64 kd, .int .i64 ii, .int .i64 z, .slice ab nb cb] 49) = W at *
  have a1 : W.cell? ⟨gx, 1, none⟩ = some (.int .i64 ii) := HA.out.cell 1
  have a3 : W.cell? ⟨gx, 3, none⟩ = some (.slice ab nb cb) := HA.out.cell 3
  obtain ⟨k0, k1, k2, k3⟩ := K1.out.cells
  go_region
  clear q1 q2 q3 et ew
  have D2 : Hid (Dsk W.drew g a n c bs (kk : Int) false tw) := Lib.hid ⟨D1.out.head, D1.out.len, D1.out.cap, D1.out.few, D1.out.lo, D1.out.hi, D1.out.sec⟩
  have K2 : Hid (Bok W.drew k ka m kc bs (kk : Int) false tw) := Lib.hid ⟨K1.out.head, K1.out.len, K1.out.cap, K1.out.sec⟩
  have X2 : Hid (Sl W.drew ab nb 1 (bcells xs)) := X1
  have A2 : Hid (Blk W.drew gx [.int .i64 kd, .int .i64 ii, .int .i64 z, .slice ab nb cb] 49) := HA
  have B2 := Lib.hid B1.out.drew
  have O2 := Lib.hid O1.out.drew
  have hz2 : gx < W.drew.heap.size := hlt
  clear D1 K1 X1 HA B1 O1 k0 k1 k2 k3 a1 a3 hlt
  generalize W.drew = W at *
  obtain ⟨k0, k1, k2, k3⟩ := K2.out.cells
  have f1 := K2.out.head.froz 1
  have f2 := K2.out.head.froz 2
  have t1 : (0 : Int) ≤ kk := by omega
  have t2 : (kk : Int) < 32 := by have := HL.out; omega
  have K3 : Hid (Bok (W.setCell ⟨k, 2, none⟩ (.bool true)) k ka m kc bs (kk : Int) true tw) := Lib.hid (K2.out.set_dead true)
  have O3 : Hid (Only (bkp k ka) W (W.setCell ⟨k, 2, none⟩ (.bool true))) := Lib.hid (((Only.refl (bkp k ka) W).setCell (g := k) (Or.inl rfl) 2 (.bool true)))
  go_upto_region 9 with fail
  generalize (W.setCell ⟨k, 2, none⟩ (.bool true)) = W3 at *
  clear k0 k1 k2 k3 f1 f2 t1 t2
  have hm0 : 0 < m := by have := HM.out; have := HIN.out; omega
  obtain ⟨s, hka, hsk⟩ := K3.out.at_ hm0
  have hsg : s ≠ gx := by
    rcases HT.out.b.sec with h0 | ⟨s', sp, ha', hb, hn⟩
    · have := HIN.out; omega
    · rw [hka] at ha'; cases ha'
      have := hb.lt
      have := HGX.out
      omega
  have HP : Hid (¬ bkp k ka gx) := Lib.hid (by
    rintro (e | ⟨t, ht, e⟩)
    · exact hgs.out.2 e.symm
    · rw [hka] at ht; cases ht; exact hsg e.symm)
  have HX9 : Hid (∀ x, ab = some x → ¬ bkp k ka x.block) := Lib.hid (fun x hx hb => by have := hab'.out x hx; have := HT.out.lob _ hb; omega)
  obtain ⟨K, hK⟩ : ∃ K : Nat, K = kk := ⟨_, rfl⟩
  have HK := Lib.hid (show K ≤ 32 by have := HL.out; omega)
  have HKE := Lib.hid hK
  have BS0 : setSeg bs (32 * i) (xs.take 0) = bs := by rw [List.take_zero, setSeg_nil]
  have K4 : Hid (Bok W3 k ka m kc (setSeg bs (32 * i) (xs.take 0)) (kk : Int) true tw) := by rw [BS0]; exact K3
  clear BS0 hm0 hK
  go_wp2_with fail
  go_loopg [8] K (fun qq s8 wr => ∃ j : Nat, qq + j = K ∧ s8 = .int .i64 j ∧ Hid (Bok wr k ka m kc (setSeg bs (32 * i) (xs.take j)) (kk : Int) true tw) ∧ Hid (Only (bkp k ka) W3 wr))
  case atStart => exact ⟨0, by omega, rfl, K4, Lib.hid (Only.refl _ _)⟩
  case round =>
    obtain ⟨j, hqj, rfl, KJ, OJ⟩ := hrel
    have AJ := Lib.hid ((A2.out.only O3.out HP.out).only OJ.out HP.out)
    have XJ := Lib.hid ((X2.out.only O3.out HX9.out).only OJ.out HX9.out)
    by_cases hjk : j < K
    · have hj32 : j < 32 := by have := HK.out; omega
      obtain ⟨_, b1, o1, hab1, hb1, hcl⟩ := XJ.out.byte (by have := HNB.out; omega)
      subst hab1
      have cx := hcl j (by have := HNB.out; omega)
      have a1 := AJ.out.cell 1
      have a1 : wr.cell? ⟨gx, 1, none⟩ = some (.int .i64 ii) := a1
      have a3 : wr.cell? ⟨gx, 3, none⟩ = some (.slice (some ⟨b1, o1, none⟩) nb cb) := AJ.out.cell 3
      have k0 := KJ.out.cells.1
      rw [hka] at k0
      obtain ⟨zz, hzz⟩ : ∃ zz : Nat, zz = 32 * i + j := ⟨_, rfl⟩
      have hzm : zz < m := by have := HM.out; have := HIN.out; omega
      obtain ⟨cy, fy, _⟩ := KJ.out.byte hka zz hzm
      have KN := Lib.hid (KJ.out.set_byte hka zz (xs.getD j 0) hzm)
      have KS := Lib.hid (setSeg_step (bs := bs) (xs := xs) (o := 32 * i) (j := j) (by have := HXL.out; omega) (by have := HXL.out; have := HM.out; have := HIN.out; have := KJ.out.len; have hb := HT.out.b.len; omega))
      rw [hzz, KS.out, ← hzz] at KN
      have ON := Lib.hid (OJ.out.setCell (g := s) (Or.inr ⟨_, hka, rfl⟩) zz (.int .u8 ((xs.getD j 0).toNat : Int)))
      generalize (xs.getD j 0).toNat = xv at *
      have few := HT.out.d.few
      have e1 : IntKind.i64.wrap (32 * ii) = 32 * ii := (IntKind.wrap_i64 _).trans (by have := HII.out; have := HIN.out; omega)
      have e2 : IntKind.i64.wrap (32 * ii + (j : Int)) = (zz : Int) := (IntKind.wrap_i64 _).trans (by have := HII.out; have := HIN.out; omega)
      have i1 : (0 : Int) ≤ (zz : Int) := by omega
      have i2 : (zz : Int) < m := by omega
      have i3 : (0 : Int) ≤ j := by omega
      have i4 : (j : Int) < nb := by have := HNB.out; omega
      have i5 : (j : Int) < kk := by have := HKE.out; omega
      have i6 : (j : Int) < 1000 := by omega
      have HQ := Lib.hid (And.intro hqj hjk)
      clear hqj hjk hj32 hcl hzz hzm few hb1
      go_upto_region 12 with fail
      go_region
      go_wp2_with fail
      go_roundg (gk - 1)
      case measure => have := HQ.out; omega
      case rel => exact ⟨j + 1, by have := HQ.out; omega, by go_num, Lib.hid ⟨KN.out.head, KN.out.len, KN.out.cap, KN.out.sec⟩, Lib.hid ⟨ON.out.os, ON.out.tape, ON.out.output, ON.out.size, ON.out.block⟩⟩
    · have hjk' : j = K := by omega
      subst hjk'
      have i5 : ¬ (j : Int) < kk := by have := HKE.out; omega
      obtain ⟨k0, k1, k2, k3⟩ := KJ.out.cells
      have f1 := KJ.out.head.froz 1
      have f3 := KJ.out.head.froz 3
      have k3' := (KJ.out.set_fuel (-1)).cells.2.2.2
      have f3' := (KJ.out.set_fuel (-1)).head.froz 3
      have KF := Lib.hid ((KJ.out.set_fuel (-1)).set_wr (wrap64 (tw + (kk : Int))))
      have OF := Lib.hid ((OJ.out.setCell (g := k) (Or.inl rfl) 1 (.int .i64 (-1))).setCell (g := k) (Or.inl rfl) 3 (.int .i64 (wrap64 (tw + (kk : Int)))))
      go_upto_region 16 with fail
      generalize (wr.setCell ⟨k, 1, none⟩ (.int .i64 (-1))).setCell ⟨k, 3, none⟩ (.int .i64 (wrap64 (tw + (kk : Int)))) = WF at *
      clear k0 k1 k2 k3 f1 f3 i5 k3' f3'
      have OA := Lib.hid (O3.out.trans OF.out)
      have AF := Lib.hid (A2.out.only OA.out HP.out)
      have XF := Lib.hid (X2.out.only OA.out HX9.out)
      have DF := Lib.hid (D2.out.only OA.out (fun q hd hb => HT.out.disj q hb hd))
      have NK : Hid (¬ dkp g a k) := Lib.hid (HT.out.disj k (Or.inl rfl))
      have NG : Hid (¬ dkp g a gx) := Lib.hid (by
        rintro (e | ⟨t, ht, e⟩)
        · exact hgs.out.1 e.symm
        · rcases HT.out.d.sec with h0 | ⟨s', sp, ha', hb, hn⟩
          · have := HIN.out; omega
          · rw [ha'] at ht; cases ht
            have := hb.lt
            have := HGX.out
            have e' : gx = s' := e
            omega)
      have WRI : Hid (Calls Try.prog 17 #[.pointer (some ⟨g, 0, none⟩), .int .i64 ii, .slice ab nb cb] WF.drew fun e w' => e = .returned (.bool false) ∧ Dsk w' g a n c (setSeg bs (32 * i) (xs.take kk)) (-1) true (wrap64 (tw + (kk : Int))) ∧ Only (dkp g a) WF.drew w') := Lib.hid (by
        rw [HII.out, HNB.out]
        have hx : Sl WF.drew ab 32 1 (bcells xs) := by have := XF.out; rw [HNB.out] at this; exact this
        exact write_cut kk (show Dsk WF.drew g a n c bs (kk : Int) false tw from ⟨DF.out.head, DF.out.len, DF.out.cap, DF.out.few, DF.out.lo, DF.out.hi, DF.out.sec⟩) HL.out i (by have := HIN.out; omega) ab cb (by have := HNC.out; omega) xs hx)
      refine held_begin (fun w' => Blk w' k (bkc ka m kc (-1) true (wrap64 (tw + (kk : Int)))) 35 ∧ Blk w' gx [.int .i64 kd, .int .i64 ii, .int .i64 z, .slice ab nb cb] 49) 13 [false, false, false, false, false, false, false, false, false, false, false, false, false] (by kernel_rfl) rfl (by rfl) ?_
      have hHeld : Blk WF.drew k (bkc ka m kc (-1) true (wrap64 (tw + (kk : Int)))) 35 ∧ Blk WF.drew gx [.int .i64 kd, .int .i64 ii, .int .i64 z, .slice ab nb cb] 49 := ⟨KF.out.head.drew, AF.out.drew⟩
      refine held_take (v := ?_) 0 110 [true, false, false, false, false, false, false, false, false, false, false, false, false] rfl (by rfl) (by rfl) (by kernel_rfl) (by kernel_rfl) (by kernel_rfl) (by rfl) (fun _ _ _ h => h) ?_ hHeld ?_
      rotate_left
      · intro w hSw; go_simp <;> with_reducible rfl
      simp only [Act.put, List.setIfInBounds_toArray, List.set_cons_zero, List.set_cons_succ]
      refine held_take (v := ?_) 1 111 [true, true, false, false, false, false, false, false, false, false, false, false, false] rfl (by rfl) (by rfl) (by kernel_rfl) (by kernel_rfl) (by kernel_rfl) (by rfl) (fun _ _ _ h => h) ?_ hHeld ?_
      rotate_left
      · intro w hSw; go_simp <;> with_reducible rfl
      simp only [Act.put, List.setIfInBounds_toArray, List.set_cons_zero, List.set_cons_succ]
      refine held_take (v := .int .i64 ii) 2 112 [true, true, true, false, false, false, false, false, false, false, false, false, false] rfl (by rfl) (by rfl) (by kernel_rfl) (by kernel_rfl) (by kernel_rfl) (by rfl) (fun _ _ _ h => h) (fun w' h => run_op_oneD rfl rfl Try.underlying3 rfl (h.2.cell 1)) hHeld ?_
      simp only [Act.put, List.setIfInBounds_toArray, List.set_cons_zero, List.set_cons_succ]
      refine held_take (v := ?_) 3 113 [true, true, true, true, false, false, false, false, false, false, false, false, false] rfl (by rfl) (by rfl) (by kernel_rfl) (by kernel_rfl) (by kernel_rfl) (by rfl) (fun _ _ _ h => h) ?_ hHeld ?_
      rotate_left
      · intro w hSw; go_simp <;> with_reducible rfl
      simp only [Act.put, List.setIfInBounds_toArray, List.set_cons_zero, List.set_cons_succ]
      refine held_take (v := .slice ab nb cb) 4 114 [true, true, true, true, true, false, false, false, false, false, false, false, false] rfl (by rfl) (by rfl) (by kernel_rfl) (by kernel_rfl) (by kernel_rfl) (by rfl) (fun _ _ _ h => h) (fun w' h => run_op_oneD rfl rfl Try.underlying33 rfl (h.2.cell 3)) hHeld ?_
      simp only [Act.put, List.setIfInBounds_toArray, List.set_cons_zero, List.set_cons_succ]
      refine held_take (v := ?_) 6 116 [true, true, true, true, true, false, true, false, false, false, false, false, false] rfl (by rfl) (by rfl) (by kernel_rfl) (by kernel_rfl) (by kernel_rfl) (by rfl) (fun _ _ _ h => h) ?_ hHeld ?_
      rotate_left
      · intro w hSw; go_simp <;> with_reducible rfl
      simp only [Act.put, List.setIfInBounds_toArray, List.set_cons_zero, List.set_cons_succ]
      refine held_take (v := ?_) 7 117 [true, true, true, true, true, false, true, true, false, false, false, false, false] rfl (by rfl) (by rfl) (by kernel_rfl) (by kernel_rfl) (by kernel_rfl) (by rfl) (fun _ _ _ h => h) ?_ hHeld ?_
      rotate_left
      · intro w hSw; go_simp <;> with_reducible rfl
      simp only [Act.put, List.setIfInBounds_toArray, List.set_cons_zero, List.set_cons_succ]
      refine held_take (v := ?_) 8 118 [true, true, true, true, true, false, true, true, true, false, false, false, false] rfl (by rfl) (by rfl) (by kernel_rfl) (by kernel_rfl) (by kernel_rfl) (by rfl) (fun _ _ _ h => h) ?_ hHeld ?_
      rotate_left
      · intro w hSw; go_simp <;> with_reducible rfl
      simp only [Act.put, List.setIfInBounds_toArray, List.set_cons_zero, List.set_cons_succ]
      refine held_take (v := .bool true) 9 119 [true, true, true, true, true, false, true, true, true, true, false, false, false] rfl (by rfl) (by rfl) (by kernel_rfl) (by kernel_rfl) (by kernel_rfl) (by rfl) (fun _ _ _ h => h) (fun w' h => run_op_oneD rfl rfl Try.underlying4 rfl (h.1.cell 2)) hHeld ?_
      simp only [Act.put, List.setIfInBounds_toArray, List.set_cons_zero, List.set_cons_succ]
      refine held_take (v := .bool false) 10 120 [true, true, true, true, true, false, true, true, true, true, true, false, false] rfl (by rfl) (by rfl) (by kernel_rfl) (by kernel_rfl) (by kernel_rfl) (by rfl) (fun _ _ _ h => h) (fun w' h => by go_simp) hHeld ?_
      simp only [Act.put, List.setIfInBounds_toArray, List.set_cons_zero, List.set_cons_succ]
      refine held_call 5 115 [true, true, true, true, true, true, true, true, true, true, true, false, false] (by kernel_rfl) rfl (by rfl) (by rfl) (by rfl) (by go_simp) ((WRI.out).mono ?_)
      rintro e w2 ⟨rfl, hd2, ho2⟩
      refine ⟨_, rfl, ⟨hHeld.1.only ho2 NK.out, hHeld.2.only ho2 NG.out⟩, fun hHeld => ?_⟩
      simp only [Act.put, List.setIfInBounds_toArray, List.set_cons_zero, List.set_cons_succ]
      refine held_take (v := .bool true) 11 121 [true, true, true, true, true, true, true, true, true, true, true, true, false] rfl (by rfl) (by rfl) (by kernel_rfl) (by kernel_rfl) (by kernel_rfl) (by rfl) (fun _ _ _ h => h) (fun w' h => by go_simp) hHeld ?_
      simp only [Act.put, List.setIfInBounds_toArray, List.set_cons_zero, List.set_cons_succ]
      refine held_take (v := ?_) 12 6 [true, true, true, true, true, true, true, true, true, true, true, true, true] rfl (by rfl) (by rfl) (by kernel_rfl) (by kernel_rfl) (by kernel_rfl) (by rfl) (fun _ _ _ h => h) ?_ hHeld ?_
      rotate_left
      · intro w hSw; go_simp <;> with_reducible rfl
      simp only [Act.put, List.setIfInBounds_toArray, List.set_cons_zero, List.set_cons_succ]
      refine held_done (by kernel_rfl) ?_
      have R2 := Lib.hid (And.intro hd2 ho2)
      clear hd2 ho2 hHeld
      go_wp2_with fail
      go_ret
      have OD := (Only.refl (bkp k ka) WF).drew
      have XT : xs.take j = (xs.take kk) := by rw [HKE.out]
      have KF2 : Bok WF.drew k ka m kc (setSeg bs (32 * i) (xs.take kk)) (-1) true (wrap64 (tw + (kk : Int))) := by have := KF.out; rw [XT] at this; exact ⟨this.head, this.len, this.cap, this.sec⟩
      have KF3 := KF2.only R2.out.2 HT.out.disj
      rw [HM.out] at KF3
      have BB : Below B w w2 := B2.out.trans (((OA.out.trans OD).toBelow HT.out.lob (Nat.le_trans HT.out.lw B2.out.size)).trans (R2.out.2.toBelow HT.out.lod (Nat.le_trans (Nat.le_trans HT.out.lw B2.out.size) (OA.out.trans OD).size)))
      exact ⟨rfl, ⟨_, _, _, _, ⟨R2.out.1, KF3, HT.out.kg, HT.out.ak, HT.out.kag, HT.out.aka, HT.out.lg, HT.out.lk, HT.out.la, HT.out.lka, Nat.le_trans HT.out.lw BB.size, fun j hj => Nat.lt_of_lt_of_le (HT.out.top j hj) BB.size⟩⟩, BB, O2.out.trans (((OA.out.trans OD).mono fun _ h => Or.inr h).trans (R2.out.2.mono fun _ h => Or.inl h))⟩
end Go.Proofs.Yteebmpbplenikaa
