/- A list of tentative changes: Len, Put. -/
import Derived.Test.YtcfipimhpeblbaaStm17
import Derived.Test.YtcfipimhpeblbaaOnly
import Derived.Deep.DeepCutAuto
import Derived.Maps.AppendAt
import Derived.Test.YtcfipimhpeblbaaRow
import Derived.Test.YtcfipimhpeblbaaOps
import Derived.RegionTactic
import Derived.BigRegion
import Derived.ChangeAlike
namespace Go.Proofs.Ytcfipimhpeblbaa
set_option linter.unusedVariables false
set_option linter.unusedSimpArgs false
open Go.ChangeShapes Go.WideShapes Go.ChangeAt Go.RowKit
structure Tn (w : World) (g : Nat) (a : Option Addr) (n c : Nat) (L : List Int) : Prop where
  b : Blk w g [.slice a n c] 29
  s : Sl w a n 9 (ints L)
  z : a = none → c = 0
  nc : n ≤ c
theorem Tn.keep {w w' : World} {g n c : Nat} {a : Option Addr} {L : List Int} (T : Tn w g a n c L) (hb : Below w.heap.size w w') : Tn w' g a n c L := ⟨T.b.keep hb T.b.lt, T.s.keep hb, T.z, T.nc⟩
theorem run_op_store1 {P : Program} {o : Oper} {T : TypeId} {x y : Operand} {a : Act} {w : World} {g j m k : Nat} {b : Option Addr} {old : Value} (ho : o.op = .store T x y) (hx : a.eval x = .pointer (some ⟨g, j, none⟩)) (hy : a.eval y = .slice b m k) (hi : (P.info? T).map (·.size) = some 1) (hc : w.cell? ⟨g, j, none⟩ = some old) (hf : w.frozen? ⟨g, j, none⟩ = false) :
    (execOp a.eval o).run P w = .ok .skip (w.setCell ⟨g, j, none⟩ (.slice b m k)) := by
  cases hq : P.info? T with
  | none => simp [hq] at hi
  | some i =>
    have hi1 : i.size = 1 := by simpa [hq] using hi
    unfold execOp
    simp only [ho, hx, hy]
    simp [Instr.storeAt, Instr.sureAddr, storeVar, go_sem, hc, hf, sizeOf, typeInfo, hq, hi1, storeCells]
theorem slNe {w : World} {a : Option Addr} {g n sz : Nat} {xs : List Value} (h : Sl w a n sz xs) (ha : ∀ ad, a = some ad → n = 0 ∨ ad.block ≠ g) (j : Nat) (v : Value) : Sl (w.setCell ⟨g, j, none⟩ v) a n sz xs := by
  refine ⟨h.1, ?_⟩
  rcases h.2 with h0 | ⟨b, off, rfl, hlt, hc⟩
  · exact Or.inl h0
  · rcases ha _ rfl with h0 | hne
    · exact Or.inl h0
    · refine Or.inr ⟨b, off, rfl, by rw [size_set]; exact hlt, fun k hk => ?_⟩
      rw [← hc k hk]
      unfold World.cell?
      rw [heap_setCell_other _ _ _ _ hne]
theorem own_fresh {w : World} {B n sz c : Nat} {e : TypeId} {a : Option Addr} {ad : Addr} {xs : List Value} (h : w.ownsRow B e sz (.slice a n c) n xs) (ha : a = some ad) : n = 0 ∨ B ≤ ad.block := by
  rcases h.2 with ⟨he, h0⟩ | ⟨g, c2, cur, he, hbg, _⟩
  · exact Or.inl h0
  · rw [ha] at he
    cases he
    exact Or.inr hbg
theorem tlen_any {{w : World}} {{g n c : Nat}} {{a : Option Addr}} {{L : List Int}} (T : Hid (Tn w g a n c L)) : Calls Try.prog 18 #[.pointer (some ⟨g, 0, none⟩)] w fun e w' => e = .returned (.int .i64 n) ∧ w = w' := by
  have hc := T.out.b.cell 0
  go_enter Try.func18, Try.ntmps18
  go_wp2_with fail
  go_ret
  exact ⟨rfl, rfl⟩
def idR (cv : List Int) : Int := cv.getD 0 0
def idQ (cv : List Int) : Int := cv.getD 1 0
theorem id_part {cv : List Int} (h : cv.length = 9) : ((ints cv).drop 0).take 2 = ints [idR cv, idQ cv] := by
  obtain ⟨p, q, t, k, a, b, n, r, s, rfl⟩ := nine h
  rfl
theorem idxC_ge {L : List Int} {r q : Int} : ∀ n, -1 ≤ idxC L r q n
  | 0 => Int.le_refl _
  | n + 1 => by
    have := idxC_ge (L := L) (r := r) (q := q) n
    unfold idxC
    split
    · split <;> omega
    · exact this
set_option maxRecDepth 100000 in
set_option maxHeartbeats 4000000 in
theorem tput_no {{w : World}} {{g n c : Nat}} {{a : Option Addr}} {{L : List Int}} (T : Hid (Tn w g a n c L)) (cv : List Int) (lc : cv.length = 9) (hf : Hid (∀ k, fits (L.getD k 0) = true)) (hfc : ∀ k, fits (cv.getD k 0) = true) (hn : n ≤ 999) (hit : 0 ≤ idxC L (idR cv) (idQ cv) n) :
    Calls Try.prog 16 #[.pointer (some ⟨g, 0, none⟩), .agg (ints cv).toArray] w fun e w' => e = .returned (.bool false) ∧ Below w.heap.size w w' := by
  have HB := Lib.hid ((Below.refl w.heap.size w).alloc (Nat.le_refl _) (.cells (ints cv).toArray 36))
  have C1 : Hid (Blk (w.alloc (.cells (ints cv).toArray 36)) w.heap.size (ints cv) 36) := Lib.hid (Blk.new w (ints cv).toArray 36)
  have B1 := Lib.hid (T.out.b.alloc (.cells (ints cv).toArray 36))
  have XI := Lib.hid (id_part lc)
  have T1 := Lib.hid (T.out.keep HB.out)
  have FD0 := Lib.hid (fun w' hs => sfind_any a n c L (idR cv) (idQ cv) w' (Lib.hid hs) hf (hfc 0) (hfc 1) (by omega))
  generalize idR cv = r at *
  generalize idQ cv = q at *
  generalize idxC L r q n = ix at *
  have hixb : ¬ ix < 0 := by omega
  clear hfc lc
  go_enter Try.func16, Try.ntmps16
  go_upto_region 1 with fail
  generalize hg0 : w.heap.size = g0 at *
  have HG0 := Lib.hid hg0
  generalize w.alloc (.cells (ints cv).toArray 36) = w1 at *
  clear hg0
  have FD := Lib.hid (fun w' (hb : Below w1.heap.size w1 w') => FD0.out w' (T1.out.s.keep hb))
  refine held_begin (fun w' => Below w1.heap.size w1 w') 12 [false, false, false, false, false, false, false, false, false, false, false, false] (by kernel_rfl) rfl (by rfl) ?_
  have hHeld : Below w1.heap.size w1 w1.drew := (Below.refl _ _).drew
  refine held_take (v := ?_) 0 5 [true, false, false, false, false, false, false, false, false, false, false, false] rfl (by rfl) (by rfl) (by kernel_rfl) (by kernel_rfl) (by kernel_rfl) (by rfl) (fun _ _ _ h => h) ?_ hHeld ?_
  rotate_left
  · intro w hSw; go_simp <;> with_reducible rfl
  simp only [Act.put, List.setIfInBounds_toArray, List.set_cons_zero, List.set_cons_succ]
  refine held_take (v := .bool false) 1 6 [true, true, false, false, false, false, false, false, false, false, false, false] rfl (by rfl) (by rfl) (by kernel_rfl) (by kernel_rfl) (by kernel_rfl) (by rfl) (fun _ _ _ h => h) (fun w' h => by first | (go_simp; done) | (go_simp <;> rfl)) hHeld ?_
  simp only [Act.put, List.setIfInBounds_toArray, List.set_cons_zero, List.set_cons_succ]
  refine held_take (v := ?_) 2 7 [true, true, true, false, false, false, false, false, false, false, false, false] rfl (by rfl) (by rfl) (by kernel_rfl) (by kernel_rfl) (by kernel_rfl) (by rfl) (fun _ _ _ h => h) ?_ hHeld ?_
  rotate_left
  · intro w hSw; go_simp <;> with_reducible rfl
  simp only [Act.put, List.setIfInBounds_toArray, List.set_cons_zero, List.set_cons_succ]
  refine held_take (v := ?_) 3 8 [true, true, true, true, false, false, false, false, false, false, false, false] rfl (by rfl) (by rfl) (by kernel_rfl) (by kernel_rfl) (by kernel_rfl) (by rfl) (fun _ _ _ h => h) ?_ hHeld ?_
  rotate_left
  · intro w hSw; go_simp <;> with_reducible rfl
  simp only [Act.put, List.setIfInBounds_toArray, List.set_cons_zero, List.set_cons_succ]
  refine held_take (v := .pointer (some ⟨g, 0, none⟩)) 4 9 [true, true, true, true, true, false, false, false, false, false, false, false] rfl (by rfl) (by rfl) (by kernel_rfl) (by kernel_rfl) (by kernel_rfl) (by rfl) (fun _ _ _ h => h) (fun w' h => by first | (go_simp; done) | (go_simp <;> rfl)) hHeld ?_
  simp only [Act.put, List.setIfInBounds_toArray, List.set_cons_zero, List.set_cons_succ]
  refine held_take (v := .pointer (some ⟨g, 0, none⟩)) 5 10 [true, true, true, true, true, true, false, false, false, false, false, false] rfl (by rfl) (by rfl) (by kernel_rfl) (by kernel_rfl) (by kernel_rfl) (by rfl) (fun _ _ _ h => h) (fun w' h => by first | (go_simp; done) | (go_simp <;> rfl)) hHeld ?_
  simp only [Act.put, List.setIfInBounds_toArray, List.set_cons_zero, List.set_cons_succ]
  refine held_take (v := .slice a n c) 6 11 [true, true, true, true, true, true, true, false, false, false, false, false] rfl (by rfl) (by rfl) (by kernel_rfl) (by kernel_rfl) (by kernel_rfl) (by rfl) (fun _ _ _ h => h) (fun w' h => run_op_one rfl rfl Try.underlying24 rfl ((B1.out.keep h B1.out.lt).cell 0)) hHeld ?_
  simp only [Act.put, List.setIfInBounds_toArray, List.set_cons_zero, List.set_cons_succ]
  refine held_take (v := .pointer (some ⟨g0, 0, none⟩)) 7 12 [true, true, true, true, true, true, true, true, false, false, false, false] rfl (by rfl) (by rfl) (by kernel_rfl) (by kernel_rfl) (by kernel_rfl) (by rfl) (fun _ _ _ h => h) (fun w' h => by first | (go_simp; done) | (go_simp <;> rfl)) hHeld ?_
  simp only [Act.put, List.setIfInBounds_toArray, List.set_cons_zero, List.set_cons_succ]
  refine held_take (v := .agg #[.int .i64 r, .int .i64 q]) 8 13 [true, true, true, true, true, true, true, true, true, false, false, false] rfl (by rfl) (by rfl) (by kernel_rfl) (by kernel_rfl) (by kernel_rfl) (by rfl) (fun _ _ _ h => h) (fun w' h => run_op_load rfl rfl ((C1.out.keep h C1.out.lt).range 0 (ints [r, q]) XI.out) Try.underlying34 rfl rfl) hHeld ?_
  simp only [Act.put, List.setIfInBounds_toArray, List.set_cons_zero, List.set_cons_succ]
  refine held_call 9 14 [true, true, true, true, true, true, true, true, true, true, false, false] (by kernel_rfl) rfl (by rfl) (by rfl) (by rfl) (by go_simp) ((FD.out _ hHeld).mono ?_)
  rintro e w4 ⟨rfl, hb4⟩
  refine ⟨_, rfl, hHeld.trans (hb4.mono hHeld.size), fun hHeld => ?_⟩
  simp only [Act.put, List.setIfInBounds_toArray, List.set_cons_zero, List.set_cons_succ]
  refine held_take (v := ?_) 10 15 [true, true, true, true, true, true, true, true, true, true, true, false] rfl (by rfl) (by rfl) (by kernel_rfl) (by kernel_rfl) (by kernel_rfl) (by rfl) (fun _ _ _ h => h) ?_ hHeld ?_
  rotate_left
  · intro w hSw; go_simp <;> with_reducible rfl
  simp only [Act.put, List.setIfInBounds_toArray, List.set_cons_zero, List.set_cons_succ]
  refine held_take (v := ?_) 11 16 [true, true, true, true, true, true, true, true, true, true, true, true] rfl (by rfl) (by rfl) (by kernel_rfl) (by kernel_rfl) (by kernel_rfl) (by rfl) (fun _ _ _ h => h) ?_ hHeld ?_
  rotate_left
  · intro w hSw; go_simp <;> with_reducible rfl
  simp only [Act.put, List.setIfInBounds_toArray, List.set_cons_zero, List.set_cons_succ]
  refine held_done (by kernel_rfl) ?_
  have HB9 := Lib.hid (HB.out.trans (hHeld.mono (HG0.out ▸ HB.out.size)))
  clear hHeld
  go_wp2_with fail
  go_ret
  have hge := HG0.out
  subst hge
  exact ⟨rfl, HB9.out⟩
set_option maxRecDepth 100000 in
set_option maxHeartbeats 4000000 in
theorem tput_yes {{w : World}} {{g n c : Nat}} {{a : Option Addr}} {{L : List Int}} (T : Hid (Tn w g a n c L)) (cv : List Int) (lc : cv.length = 9) (hf : Hid (∀ k, fits (L.getD k 0) = true)) (hfc : ∀ k, fits (cv.getD k 0) = true) (hn : n ≤ 999) (hit : idxC L (idR cv) (idQ cv) n < 0) :
    Calls Try.prog 16 #[.pointer (some ⟨g, 0, none⟩), .agg (ints cv).toArray] w fun e w' => e = .returned (.bool true) ∧ (∃ a' c', Tn w' g a' (n + 1) c' (putC L n cv)) ∧ Only (fun k => k = g) w w' := by
  have HB := Lib.hid ((Below.refl w.heap.size w).alloc (Nat.le_refl _) (.cells (ints cv).toArray 36))
  have C1 : Hid (Blk (w.alloc (.cells (ints cv).toArray 36)) w.heap.size (ints cv) 36) := Lib.hid (Blk.new w (ints cv).toArray 36)
  have B1 := Lib.hid (T.out.b.alloc (.cells (ints cv).toArray 36))
  have NG : Hid (¬ w.heap.size = g) := Lib.hid (fun e => by have := T.out.b.lt; omega)
  have XI := Lib.hid (id_part lc)
  have ER : Hid (((ints cv).drop 0).take (ints cv).length = ints cv) := Lib.hid (by simp)
  have TA : Hid (RowT 36 (ints cv).length) := Lib.hid (by rw [ints_len, lc]; exact rowChg)
  have T1 := Lib.hid (T.out.keep HB.out)
  have FD0 := Lib.hid (fun w' hs => sfind_any a n c L (idR cv) (idQ cv) w' (Lib.hid hs) hf (hfc 0) (hfc 1) (by omega))
  have PT := Lib.hid (fun w' (hs : Sl w' a n 9 (ints L)) => sput_any a n c L cv w' (Lib.hid hs) T.out.z T.out.nc (by omega) lc)
  generalize idR cv = r at *
  generalize idQ cv = q at *
  generalize idxC L r q n = ix at *
  clear hfc
  go_enter Try.func16, Try.ntmps16
  go_upto_region 1 with fail
  generalize hg0 : w.heap.size = g0 at *
  have HG0 := Lib.hid hg0
  generalize w.alloc (.cells (ints cv).toArray 36) = w1 at *
  clear hg0
  have FD := Lib.hid (fun w' (hb : Below w1.heap.size w1 w') => FD0.out w' (T1.out.s.keep hb))
  refine held_begin (fun w' => Below w1.heap.size w1 w') 12 [false, false, false, false, false, false, false, false, false, false, false, false] (by kernel_rfl) rfl (by rfl) ?_
  have hHeld : Below w1.heap.size w1 w1.drew := (Below.refl _ _).drew
  refine held_take (v := ?_) 0 5 [true, false, false, false, false, false, false, false, false, false, false, false] rfl (by rfl) (by rfl) (by kernel_rfl) (by kernel_rfl) (by kernel_rfl) (by rfl) (fun _ _ _ h => h) ?_ hHeld ?_
  rotate_left
  · intro w hSw; go_simp <;> with_reducible rfl
  simp only [Act.put, List.setIfInBounds_toArray, List.set_cons_zero, List.set_cons_succ]
  refine held_take (v := .bool false) 1 6 [true, true, false, false, false, false, false, false, false, false, false, false] rfl (by rfl) (by rfl) (by kernel_rfl) (by kernel_rfl) (by kernel_rfl) (by rfl) (fun _ _ _ h => h) (fun w' h => by first | (go_simp; done) | (go_simp <;> rfl)) hHeld ?_
  simp only [Act.put, List.setIfInBounds_toArray, List.set_cons_zero, List.set_cons_succ]
  refine held_take (v := ?_) 2 7 [true, true, true, false, false, false, false, false, false, false, false, false] rfl (by rfl) (by rfl) (by kernel_rfl) (by kernel_rfl) (by kernel_rfl) (by rfl) (fun _ _ _ h => h) ?_ hHeld ?_
  rotate_left
  · intro w hSw; go_simp <;> with_reducible rfl
  simp only [Act.put, List.setIfInBounds_toArray, List.set_cons_zero, List.set_cons_succ]
  refine held_take (v := ?_) 3 8 [true, true, true, true, false, false, false, false, false, false, false, false] rfl (by rfl) (by rfl) (by kernel_rfl) (by kernel_rfl) (by kernel_rfl) (by rfl) (fun _ _ _ h => h) ?_ hHeld ?_
  rotate_left
  · intro w hSw; go_simp <;> with_reducible rfl
  simp only [Act.put, List.setIfInBounds_toArray, List.set_cons_zero, List.set_cons_succ]
  refine held_take (v := .pointer (some ⟨g, 0, none⟩)) 4 9 [true, true, true, true, true, false, false, false, false, false, false, false] rfl (by rfl) (by rfl) (by kernel_rfl) (by kernel_rfl) (by kernel_rfl) (by rfl) (fun _ _ _ h => h) (fun w' h => by first | (go_simp; done) | (go_simp <;> rfl)) hHeld ?_
  simp only [Act.put, List.setIfInBounds_toArray, List.set_cons_zero, List.set_cons_succ]
  refine held_take (v := .pointer (some ⟨g, 0, none⟩)) 5 10 [true, true, true, true, true, true, false, false, false, false, false, false] rfl (by rfl) (by rfl) (by kernel_rfl) (by kernel_rfl) (by kernel_rfl) (by rfl) (fun _ _ _ h => h) (fun w' h => by first | (go_simp; done) | (go_simp <;> rfl)) hHeld ?_
  simp only [Act.put, List.setIfInBounds_toArray, List.set_cons_zero, List.set_cons_succ]
  refine held_take (v := .slice a n c) 6 11 [true, true, true, true, true, true, true, false, false, false, false, false] rfl (by rfl) (by rfl) (by kernel_rfl) (by kernel_rfl) (by kernel_rfl) (by rfl) (fun _ _ _ h => h) (fun w' h => run_op_one rfl rfl Try.underlying24 rfl ((B1.out.keep h B1.out.lt).cell 0)) hHeld ?_
  simp only [Act.put, List.setIfInBounds_toArray, List.set_cons_zero, List.set_cons_succ]
  refine held_take (v := .pointer (some ⟨g0, 0, none⟩)) 7 12 [true, true, true, true, true, true, true, true, false, false, false, false] rfl (by rfl) (by rfl) (by kernel_rfl) (by kernel_rfl) (by kernel_rfl) (by rfl) (fun _ _ _ h => h) (fun w' h => by first | (go_simp; done) | (go_simp <;> rfl)) hHeld ?_
  simp only [Act.put, List.setIfInBounds_toArray, List.set_cons_zero, List.set_cons_succ]
  refine held_take (v := .agg #[.int .i64 r, .int .i64 q]) 8 13 [true, true, true, true, true, true, true, true, true, false, false, false] rfl (by rfl) (by rfl) (by kernel_rfl) (by kernel_rfl) (by kernel_rfl) (by rfl) (fun _ _ _ h => h) (fun w' h => run_op_load rfl rfl ((C1.out.keep h C1.out.lt).range 0 (ints [r, q]) XI.out) Try.underlying34 rfl rfl) hHeld ?_
  simp only [Act.put, List.setIfInBounds_toArray, List.set_cons_zero, List.set_cons_succ]
  refine held_call 9 14 [true, true, true, true, true, true, true, true, true, true, false, false] (by kernel_rfl) rfl (by rfl) (by rfl) (by rfl) (by go_simp) ((FD.out _ hHeld).mono ?_)
  rintro e w4 ⟨rfl, hb4⟩
  refine ⟨_, rfl, hHeld.trans (hb4.mono hHeld.size), fun hHeld => ?_⟩
  simp only [Act.put, List.setIfInBounds_toArray, List.set_cons_zero, List.set_cons_succ]
  refine held_take (v := ?_) 10 15 [true, true, true, true, true, true, true, true, true, true, true, false] rfl (by rfl) (by rfl) (by kernel_rfl) (by kernel_rfl) (by kernel_rfl) (by rfl) (fun _ _ _ h => h) ?_ hHeld ?_
  rotate_left
  · intro w hSw; go_simp <;> with_reducible rfl
  simp only [Act.put, List.setIfInBounds_toArray, List.set_cons_zero, List.set_cons_succ]
  refine held_take (v := ?_) 11 16 [true, true, true, true, true, true, true, true, true, true, true, true] rfl (by rfl) (by rfl) (by kernel_rfl) (by kernel_rfl) (by kernel_rfl) (by rfl) (fun _ _ _ h => h) ?_ hHeld ?_
  rotate_left
  · intro w hSw; go_simp <;> with_reducible rfl
  simp only [Act.put, List.setIfInBounds_toArray, List.set_cons_zero, List.set_cons_succ]
  refine held_done (by kernel_rfl) ?_
  have B2 := Lib.hid (B1.out.keep hHeld B1.out.lt)
  have C2 := Lib.hid (C1.out.keep hHeld C1.out.lt)
  have S2 := Lib.hid (T1.out.s.keep hHeld)
  have HB2 := Lib.hid (HB.out.trans (hHeld.mono (HG0.out ▸ HB.out.size)))
  clear hHeld B1 C1 T1 FD FD0
  generalize w4 = w2 at *
  go_upto_region 3 with fail
  refine held_begin (fun w' => Only (fun k => k = g) w2 w') 10 [false, false, false, false, false, false, false, false, false, false] (by kernel_rfl) rfl (by rfl) ?_
  have hHeld : Only (fun k => k = g) w2 w2.drew := (Only.refl _ _).drew
  refine held_take (v := ?_) 0 17 [true, false, false, false, false, false, false, false, false, false] rfl (by rfl) (by rfl) (by kernel_rfl) (by kernel_rfl) (by kernel_rfl) (by rfl) (fun _ _ _ h => h) ?_ hHeld ?_
  rotate_left
  · intro w hSw; go_simp <;> with_reducible rfl
  simp only [Act.put, List.setIfInBounds_toArray, List.set_cons_zero, List.set_cons_succ]
  refine held_take (v := ?_) 1 18 [true, true, false, false, false, false, false, false, false, false] rfl (by rfl) (by rfl) (by kernel_rfl) (by kernel_rfl) (by kernel_rfl) (by rfl) (fun _ _ _ h => h) ?_ hHeld ?_
  rotate_left
  · intro w hSw; go_simp <;> with_reducible rfl
  simp only [Act.put, List.setIfInBounds_toArray, List.set_cons_zero, List.set_cons_succ]
  refine held_take (v := .pointer (some ⟨g, 0, none⟩)) 2 19 [true, true, true, false, false, false, false, false, false, false] rfl (by rfl) (by rfl) (by kernel_rfl) (by kernel_rfl) (by kernel_rfl) (by rfl) (fun _ _ _ h => h) (fun w' h => by first | (go_simp; done) | (go_simp <;> rfl)) hHeld ?_
  simp only [Act.put, List.setIfInBounds_toArray, List.set_cons_zero, List.set_cons_succ]
  refine held_take (v := .pointer (some ⟨g, 0, none⟩)) 3 20 [true, true, true, true, false, false, false, false, false, false] rfl (by rfl) (by rfl) (by kernel_rfl) (by kernel_rfl) (by kernel_rfl) (by rfl) (fun _ _ _ h => h) (fun w' h => by first | (go_simp; done) | (go_simp <;> rfl)) hHeld ?_
  simp only [Act.put, List.setIfInBounds_toArray, List.set_cons_zero, List.set_cons_succ]
  refine held_take (v := .agg (ints cv).toArray) 5 22 [true, true, true, true, false, true, false, false, false, false] rfl (by rfl) (by rfl) (by kernel_rfl) (by kernel_rfl) (by kernel_rfl) (by rfl) (fun _ _ _ h => h) (fun w' h => run_op_load rfl rfl ((C2.out.only h NG.out).range 0 (ints cv) ER.out) Try.underlying36 rfl TA.out.2) hHeld ?_
  simp only [Act.put, List.setIfInBounds_toArray, List.set_cons_zero, List.set_cons_succ]
  have BD := B2.out.drew
  have SD := Lib.hid (show Sl w2.drew a n 9 (ints L) from S2.out)
  generalize w2.drew = wD at *
  refine held_one 4 (by kernel_rfl) ?_
  refine op_value (v := .slice a n c) 21 [true, true, true, true, true, true, false, false, false, false] rfl (by rfl) (by rfl) (by rfl) (run_op_one rfl rfl Try.underlying24 rfl (BD.cell 0)) (hHeld) fun hHeld => ?_
  simp only [Act.put, List.setIfInBounds_toArray, List.set_cons_zero, List.set_cons_succ]
  have PC := PT.out wD SD
  refine held_call 6 23 [true, true, true, true, true, true, true, false, false, false] (by kernel_rfl) rfl (by rfl) (by rfl) (by rfl) (by go_simp) ((PC).mono ?_)
  rintro e w5 ⟨v5, rfl, hown5, hb5⟩
  obtain ⟨a5, c5, rfl, hs5, hz5, hn5⟩ := own_slR hown5
  refine ⟨_, rfl, hHeld.trans (Only.ofBelow' hb5), fun hHeld => ?_⟩
  simp only [Act.put, List.setIfInBounds_toArray, List.set_cons_zero, List.set_cons_succ]
  have B5 := BD.keep hb5 BD.lt
  refine held_take (v := .pointer (some ⟨g, 0, none⟩)) 7 24 [true, true, true, true, true, true, true, true, false, false] rfl (by rfl) (by rfl) (by kernel_rfl) (by kernel_rfl) (by kernel_rfl) (by rfl) (fun _ _ _ h => h) (fun w' h => by first | (go_simp; done) | (go_simp <;> rfl)) hHeld ?_
  simp only [Act.put, List.setIfInBounds_toArray, List.set_cons_zero, List.set_cons_succ]
  refine held_take (v := .pointer (some ⟨g, 0, none⟩)) 8 25 [true, true, true, true, true, true, true, true, true, false] rfl (by rfl) (by rfl) (by kernel_rfl) (by kernel_rfl) (by kernel_rfl) (by rfl) (fun _ _ _ h => h) (fun w' h => by first | (go_simp; done) | (go_simp <;> rfl)) hHeld ?_
  simp only [Act.put, List.setIfInBounds_toArray, List.set_cons_zero, List.set_cons_succ]
  refine held_one 9 (by kernel_rfl) ?_
  refine op_skip [true, true, true, true, true, true, true, true, true, true] rfl (by rfl) (by rfl) (by rfl) (run_op_store1 rfl rfl rfl rfl (B5.cell 0) (B5.froz 0)) (hHeld.setCell rfl 0 _) fun hHeld => ?_
  refine held_done (by kernel_rfl) ?_
  have HO9 := Lib.hid ((Only.ofBelow' (p := fun k => k = g) (show Below w.heap.size w w2 from HG0.out ▸ HB2.out)).trans hHeld)
  have BF := Lib.hid (B5.set 0 (.slice a5 (n + 1) c5))
  have hgl : w5.heap.size = (w5.setCell ⟨g, 0, none⟩ (.slice a5 (n + 1) c5)).heap.size := (size_set _ _ _).symm
  have hne : ∀ ad, a5 = some ad → n + 1 = 0 ∨ ad.block ≠ g := by
    intro ad e
    rcases own_fresh hown5 e with h | h
    · exact Or.inl h
    · exact Or.inr (fun e2 => by have := BD.lt; omega)
  have SF := Lib.hid (slNe hs5 hne 0 (.slice a5 (n + 1) c5))
  have HZ := Lib.hid (And.intro hz5 hn5)
  clear hHeld hown5 hs5 hb5 B5 BD hz5 hn5 hgl PC SD hne
  go_wp2_with fail
  go_ret
  exact ⟨rfl, ⟨a5, c5, BF.out, SF.out, HZ.out.1, HZ.out.2⟩, HO9.out⟩
end Go.Proofs.Ytcfipimhpeblbaa
