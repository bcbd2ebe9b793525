/- The statements of disks: what comes in; the beginning; one that is alive; scripts. -/
import Derived.Test.YteebmpbplenikaaDsk9
import Derived.Test.YteebmpbplenikaaDelay
import Derived.RegionTactic
import Derived.BigRegion
import Derived.ChangeAlike
import Derived.Laws.IdiomCopy
import Derived.Deep.LoopGhost
import Derived.Deep.DeepCutAuto
namespace Go.Proofs.Yteebmpbplenikaa
set_option linter.unusedVariables false
set_option linter.unusedSimpArgs false
open Go.ChangeShapes Go.WideShapes Go.ChangeAt Go.RowKit
theorem new_any2 (z : Int) (w : World) : Calls Try.prog 10 #[.int .i64 z] w fun e w' => ∃ g a, e = .returned (.pointer (some ⟨g, 0, none⟩)) ∧ w.heap.size ≤ g ∧ (∀ s, a = some s → w.heap.size ≤ s.block ∧ s.block < w'.heap.size) ∧ Dsk w' g a (clampI z 0 256).toNat (clampI z 0 256).toNat (List.replicate (32 * (clampI z 0 256).toNat) 0) (-1) false 0 ∧ Below w.heap.size w w' := by
  have C := Lib.hid (fun w => clamp_any z 0 256 w)
  have hr : 0 ≤ clampI z 0 256 ∧ clampI z 0 256 ≤ 256 := by unfold clampI; split <;> (try split) <;> omega
  generalize clampI z 0 256 = y at *
  obtain ⟨m, rfl⟩ := Int.eq_ofNat_of_zero_le hr.1
  have hm : m ≤ 256 := by omega
  have MK := fun w => show (Instr.makeSlice 37 (.int .i64 (m : Int)) (.int .i64 (m : Int))).run Try.prog w = .ok (.slice (some ⟨w.heap.size, 0, none⟩) m m) (w.alloc (.cells (bcells (List.replicate (32 * m) 0)).toArray 52)) from by
    have h := sec_info
    cases hq : Try.prog.info? 52 with
    | none => rw [hq] at h; cases h
    | some i =>
      rw [hq] at h
      simp only [Option.map_some, Option.some.injEq, Prod.mk.injEq] at h
      obtain ⟨h1, h2, h3⟩ := h
      have := run_makeSlice (P := Try.prog) w 37 52 i _ Try.underlying37 hq h1 .i64 .i64 (m : Int) (m : Int) (by omega) (Int.le_refl _) (by rw [h2]; simp; omega) (by rw [h3]; omega) (by omega)
      rw [h2, show ((.agg #[.int .u8 0, .int .u8 0, .int .u8 0, .int .u8 0, .int .u8 0, .int .u8 0, .int .u8 0, .int .u8 0, .int .u8 0, .int .u8 0, .int .u8 0, .int .u8 0, .int .u8 0, .int .u8 0, .int .u8 0, .int .u8 0, .int .u8 0, .int .u8 0, .int .u8 0, .int .u8 0, .int .u8 0, .int .u8 0, .int .u8 0, .int .u8 0, .int .u8 0, .int .u8 0, .int .u8 0, .int .u8 0, .int .u8 0, .int .u8 0, .int .u8 0, .int .u8 0]) : Value).cells = #[.int .u8 0, .int .u8 0, .int .u8 0, .int .u8 0, .int .u8 0, .int .u8 0, .int .u8 0, .int .u8 0, .int .u8 0, .int .u8 0, .int .u8 0, .int .u8 0, .int .u8 0, .int .u8 0, .int .u8 0, .int .u8 0, .int .u8 0, .int .u8 0, .int .u8 0, .int .u8 0, .int .u8 0, .int .u8 0, .int .u8 0, .int .u8 0, .int .u8 0, .int .u8 0, .int .u8 0, .int .u8 0, .int .u8 0, .int .u8 0, .int .u8 0, .int .u8 0] from rfl, made_zero] at this
      simpa [Nat.mul_comm] using this
  have H1 : Blk (w.alloc (.cells (bcells (List.replicate (32 * m) 0)).toArray 52)) w.heap.size (bcells (List.replicate (32 * m) 0) ++ []) 52 := by
    rw [List.append_nil]
    have := Blk.new w (bcells (List.replicate (32 * m) 0)).toArray 52
    rwa [List.toList_toArray] at this
  have B1 := (Below.refl w.heap.size w).alloc (Nat.le_refl _) (.cells (bcells (List.replicate (32 * m) 0)).toArray 52)
  have HH := Lib.hid (And.intro H1 B1)
  have HM := Lib.hid hm
  clear hr H1 B1 hm
  have hm0 : (0 : Int) ≤ m := by omega
  simp only [Int.toNat_natCast]
  go_enter Try.func10, Try.ntmps10
  have MK1 := MK w
  generalize (bcells (List.replicate (32 * m) 0)).toArray = Z at *
  clear MK
  go_wp2_with (go_at_call 22; refine (C.out _).mono ?_; rintro e w1 ⟨rfl, rfl⟩)
  go_ret
  refine ⟨_, _, rfl, by simp, (fun s hs => by cases hs; exact ⟨Nat.le_refl _, by simp; omega⟩), ⟨(by have := Blk.new (w.alloc (.cells Z 52)) #[.bool true, .slice (some ⟨w.heap.size, 0, none⟩) m m, .int .i64 (-1), .bool false, .int .i64 0] 39; rw [show (w.alloc (.cells Z 52)).heap.size = w.heap.size + 1 by simp] at this; exact this), by simp, Nat.le_refl _, HM.out, by decide, by decide, Or.inr ⟨_, [], rfl, HH.out.1.alloc _, ?_⟩⟩, HH.out.2.alloc HH.out.2.size _⟩
  simp
theorem madeU8 (n : Nat) : madeCells #[.int .u8 0] n = (bcells (List.replicate n 0)).toArray := by
  apply Array.ext
  · simp [madeCells, bcells]
  · intro i h1 h2
    simp [madeCells, bcells, Nat.mod_one]
set_option maxRecDepth 100000 in
theorem begin_any (z : Int) (w : World) : Calls Try.prog 8 #[.int .i64 z] w fun e w' => ∃ k a, e = .returned (.pointer (some ⟨k, 0, none⟩)) ∧ w.heap.size ≤ k ∧ (∀ s, a = some s → w.heap.size ≤ s.block ∧ s.block < w'.heap.size) ∧ Bok w' k a (32 * (clampI z 0 256).toNat) (32 * (clampI z 0 256).toNat) (List.replicate (32 * (clampI z 0 256).toNat) 0) (-1) false 0 ∧ Below w.heap.size w w' := by
  have C := Lib.hid (fun w => near_any z 0 256 w)
  have hr : 0 ≤ clampI z 0 256 ∧ clampI z 0 256 ≤ 256 := by unfold clampI; split <;> (try split) <;> omega
  generalize clampI z 0 256 = y at *
  have hm : y.toNat ≤ 256 := by omega
  obtain ⟨mm, hmm⟩ : ∃ mm : Nat, mm = 32 * y.toNat := ⟨_, rfl⟩
  have MK : (Instr.makeSlice 33 (.int .i64 (mm : Int)) (.int .i64 (mm : Int))).run Try.prog w = .ok (.slice (some ⟨w.heap.size, 0, none⟩) mm mm) (w.alloc (.cells (bcells (List.replicate mm 0)).toArray 5)) := by
    have h := byte_info
    cases hq : Try.prog.info? 5 with
    | none => rw [hq] at h; cases h
    | some i =>
      rw [hq] at h
      simp only [Option.map_some, Option.some.injEq, Prod.mk.injEq] at h
      obtain ⟨h1, h2, h3⟩ := h
      have := run_makeSlice (P := Try.prog) w 33 5 i _ Try.underlying33 hq h1 .i64 .i64 (mm : Int) (mm : Int) (by omega) (Int.le_refl _) (by rw [h2]; simp; omega) (by rw [h3]; omega) (by omega)
      rw [h2, show (Value.int .u8 0).cells = #[.int .u8 0] from rfl, madeU8] at this
      simpa using this
  have H1 : Blk (w.alloc (.cells (bcells (List.replicate mm 0)).toArray 5)) w.heap.size (bcells (List.replicate mm 0) ++ []) 5 := by
    rw [List.append_nil]
    have := Blk.new w (bcells (List.replicate mm 0)).toArray 5
    rwa [List.toList_toArray] at this
  have B1 := (Below.refl w.heap.size w).alloc (Nat.le_refl _) (.cells (bcells (List.replicate mm 0)).toArray 5)
  have HH := Lib.hid (And.intro H1 B1)
  rw [← hmm]
  have HMM := Lib.hid hmm
  have e1 : wrap64 (32 * y) = (mm : Int) := (show wrap64 (32 * y) = 32 * y from IntWalk.wrap64_in (32 * y) ⟨by omega, by omega⟩).trans (by omega)
  clear hr H1 B1 hm hmm
  have hm0 : (0 : Int) ≤ mm := by omega
  go_enter Try.func8, Try.ntmps8
  generalize (bcells (List.replicate mm 0)).toArray = Z at *
  go_wp2_with (go_at_call 7; refine (C.out _).mono ?_; rintro e w1 ⟨rfl, rfl⟩)
  go_ret
  refine ⟨_, _, rfl, by simp, (fun s hs => by cases hs; exact ⟨Nat.le_refl _, by simp; omega⟩), ⟨(by have := Blk.new (w.alloc (.cells Z 5)) #[.slice (some ⟨w.heap.size, 0, none⟩) mm mm, .int .i64 (-1), .bool false, .int .i64 0] 35; rw [show (w.alloc (.cells Z 5)).heap.size = w.heap.size + 1 by simp] at this; exact this), by simp, Nat.le_refl _, Or.inr ⟨_, [], rfl, HH.out.1.alloc _, ?_⟩⟩, HH.out.2.alloc HH.out.2.size _⟩
  simp
theorem one_int {W : World} {cs : List Value} (h : Rd Try.prog W 3 cs) : ∃ z : Int, cs = [.int .i64 z] ∧ fits z = true := by
  have hf := h.isFlat (show flat Try.prog 2 3 = some [some .i64] by kernel_rfl)
  have hl := hf.len
  obtain ⟨c, rfl⟩ : ∃ c, cs = [c] := List.length_eq_one_iff.1 (by simpa using hl)
  obtain ⟨⟨z, hz, hw⟩, _⟩ := hf
  exact ⟨z, by rw [hz], fits_wf hw⟩
theorem one_bytes {W : World} {cs : List Value} (h : Rd Try.prog W 33 cs) : ∃ a n c bs, cs = [.slice a n c] ∧ n ≤ c ∧ c ≤ 9223372036854775807 ∧ Sl W a n 1 (bcells bs) := by
  obtain ⟨a, n, c, xs, he, h1, h2, _, h4, h5⟩ := h.flat_slice (f := 2) (ks := [some .u8]) Try.underlying33 (by kernel_rfl) (by kernel_rfl) (by decide)
  have hl : xs.length = n := by have := h4.1; simpa using this
  obtain ⟨bs, rfl⟩ := bytes_of_ok n xs hl (fun i hi => by have := h5 i hi; simpa using this)
  exact ⟨a, n, c, bs, he, h1, by simpa [maxLen] using h2, h4⟩
theorem Arg.ops11 {W : World} {v : Value} (h : Arg Try.prog W 22 v) : ∃ a n c, v = .slice a n c ∧ n ≤ c ∧ c ≤ 9223372036854775807 ∧ (n = 0 ∨ ∃ b off, a = some ⟨b, off, none⟩ ∧ OpsAt W W.heap.size b off n) := by
  obtain ⟨a0, n0, c0, rfl, hr⟩ := h.shape_slice Try.underlying22
  obtain ⟨a, n, c, he, h1, h2, _, xs, h4, h5⟩ := hr.slice Try.underlying22 (by rw [show Try.prog.cellsOf 49 = 4 by kernel_rfl]; decide)
  simp only [List.cons.injEq, Value.slice.injEq, and_true] at he
  obtain ⟨rfl, rfl, rfl⟩ := he
  rw [show Try.prog.cellsOf 49 = 4 by kernel_rfl] at h4 h5
  refine ⟨a0, n0, c0, rfl, h1, by simpa [maxLen] using h2, ?_⟩
  rcases h4.2 with h0 | ⟨b, off, rfl, hb, hc⟩
  · exact Or.inl h0
  · refine Or.inr ⟨b, off, rfl, fun i hi => ?_⟩
    have hx := h5 i hi
    have hl4 : ((xs.drop (i * 4)).take 4).length = 4 := by have := h4.1; have := mul_row (s := 4) hi; rw [List.length_take, List.length_drop]; omega
    obtain ⟨u0, u1, u2, u3, hu⟩ : ∃ u0 u1 u2 u3, (xs.drop (i * 4)).take 4 = [u0, u1, u2, u3] := by
      match (xs.drop (i * 4)).take 4, hl4 with
      | [u0, u1, u2, u3], _ => exact ⟨u0, u1, u2, u3, rfl⟩
    rw [hu] at hx
    obtain ⟨kd, h0, _⟩ := one_int (hx.at_ Try.underlying49 0 3 0 1 (by kernel_rfl) (by kernel_rfl))
    obtain ⟨ii, h1', _⟩ := one_int (hx.at_ Try.underlying49 1 3 1 1 (by kernel_rfl) (by kernel_rfl))
    obtain ⟨z, h2', hz⟩ := one_int (hx.at_ Try.underlying49 2 3 2 1 (by kernel_rfl) (by kernel_rfl))
    obtain ⟨ab, nb, cb, bs, h3, g1, g2, g3⟩ := one_bytes (hx.at_ Try.underlying49 3 33 3 1 (by kernel_rfl) (by kernel_rfl))
    simp only [List.drop_zero, List.drop_succ_cons, List.take_succ_cons, List.take_zero, List.cons.injEq, and_true] at h0 h1' h2' h3
    subst h0 h1' h2' h3
    refine ⟨kd, ii, z, ab, nb, cb, bs, fun w' hb' => ⟨fun j v hv => ?_, g3.keep hb'⟩, g1, ((fits_iff z).1 hz).2, fun h32 x hx' => ?_⟩
    · have hj : j < 4 := (List.getElem?_eq_some_iff.1 hv).1
      rw [← hu] at hv
      rw [List.getElem?_take_of_lt hj, List.getElem?_drop] at hv
      have hq : i * 4 + j < n0 * 4 := by have := mul_row (s := 4) hi; omega
      have := hc (i * 4 + j) hq
      rw [(hb'.cell (p := ⟨b, off + i * 4 + j, none⟩) hb), Nat.add_assoc, this, List.getD_eq_getElem?_getD, hv]
      rfl
    · rcases g3.2 with h0 | ⟨b2, o2, ha2, hb2, _⟩
      · omega
      · rw [ha2] at hx'; cases hx'; exact hb2
theorem few11_any (a : Option Addr) (n c : Nat) (w : World) (hn : n ≤ c) : Calls Try.prog 11 #[.slice a n c] w fun e w' => e = .returned (.slice a (min n 50) c) ∧ w' = w := by
  go_enter Try.func11, Try.ntmps11
  by_cases h : 50 < n
  · have h' : (50 : Int) < n := by omega
    have hc : 50 ≤ c := by omega
    rw [show min n 50 = 50 by omega]
    go_wp2_with fail
    go_ret
    exact ⟨rfl, rfl⟩
  · have h' : (n : Int) ≤ 50 := by omega
    rw [show min n 50 = n by omega]
    go_wp2_with fail
    go_ret
    exact ⟨rfl, rfl⟩
theorem OpsAt.few {w : World} {B b off n m : Nat} (h : OpsAt w B b off n) (hm : m ≤ n) : OpsAt w B b off m := fun i hi => h i (by omega)
theorem OpsAt.keep {w w' : World} {B b off n : Nat} (h : OpsAt w B b off n) (hb : Below B w w') : OpsAt w' B b off n := fun i hi => by
  obtain ⟨kd, ii, z, ab, nb, cb, xs, h1, h2⟩ := h i hi
  exact ⟨kd, ii, z, ab, nb, cb, xs, fun w2 hb2 => h1 w2 (hb.trans hb2), h2⟩
end Go.Proofs.Yteebmpbplenikaa
