/- Tents of nil; clones. -/
import Derived.Test.YtcfipimhpeblbaaTen14
import Derived.Deep.DeepCutAuto
import Derived.Maps.AppendAt
import Derived.Test.YtcfipimhpeblbaaRow
import Derived.Test.YtcfipimhpeblbaaOps
import Derived.RegionTactic
import Derived.BigRegion
import Derived.ChangeAlike
namespace Go.Proofs.Ytcfipimhpeblbaa
set_option linter.unusedVariables false
set_option linter.unusedSimpArgs false
open Go.ChangeShapes Go.WideShapes Go.ChangeAt Go.RowKit
set_option maxRecDepth 100000 in
theorem nlen (w : World) : Calls Try.prog 18 #[.pointer none] w fun e w' => e = .returned (.int .i64 0) ∧ Below w.heap.size w w' := by
  go_enter Try.func18, Try.ntmps18
  go_wp2_with fail
  go_ret
  exact ⟨rfl, Below.refl _ _⟩
set_option maxRecDepth 100000 in
theorem nall (w : World) : Calls Try.prog 12 #[.pointer none] w fun e w' => e = .returned (.slice none 0 0) ∧ Below w.heap.size w w' := by
  go_enter Try.func12, Try.ntmps12
  go_wp2_with fail
  go_ret
  exact ⟨rfl, Below.refl _ _⟩
set_option maxRecDepth 100000 in
theorem nclone (w : World) : Calls Try.prog 11 #[.pointer none] w fun e w' => e = .returned (.pointer none) ∧ Below w.heap.size w w' := by
  go_enter Try.func11, Try.ntmps11
  go_wp2_with fail
  go_ret
  exact ⟨rfl, Below.refl _ _⟩
set_option maxRecDepth 100000 in
theorem nfree (w : World) : Calls Try.prog 17 #[.pointer none, .agg #[.int .i64 0, .int .i64 0]] w fun e w' => e = .returned (.bool false) ∧ Below w.heap.size w w' := by
  have HB := Lib.hid ((Below.refl w.heap.size w).alloc (Nat.le_refl _) (.cells #[.int .i64 0, .int .i64 0] 34))
  go_enter Try.func17, Try.ntmps17
  go_upto_region 1 with fail
  generalize hg0 : w.heap.size = g0 at *
  have HG0 := Lib.hid hg0
  generalize w.alloc (.cells #[.int .i64 0, .int .i64 0] 34) = w1 at *
  clear hg0
  refine q_begin (by kernel_rfl) (by kernel_rfl) ?_
  repeat (first
    | go_big_quiet_skip
    | (go_big_quiet_want; go_big_quiet_op; (first | go_big_quiet_on | (apply Exists.intro; refine ⟨fun _ _ => rfl, ?_⟩; go_big_quiet_on))))
  refine q_end ?_
  intro w3 hb3
  have HB3 := Lib.hid (HB.out.trans (hb3.mono (HG0.out ▸ HB.out.size)))
  clear hb3
  go_wp2_with fail
  go_ret
  have hge := HG0.out
  subst hge
  exact ⟨rfl, HB3.out⟩
set_option maxRecDepth 100000 in
theorem nput (w : World) : Calls Try.prog 16 #[.pointer none, .agg #[.int .i64 0, .int .i64 0, .int .i64 0, .int .i64 0, .int .i64 0, .int .i64 0, .int .i64 0, .int .i64 0, .int .i64 0]] w fun e w' => e = .returned (.bool false) ∧ Below w.heap.size w w' := by
  have HB := Lib.hid ((Below.refl w.heap.size w).alloc (Nat.le_refl _) (.cells #[.int .i64 0, .int .i64 0, .int .i64 0, .int .i64 0, .int .i64 0, .int .i64 0, .int .i64 0, .int .i64 0, .int .i64 0] 36))
  go_enter Try.func16, Try.ntmps16
  go_upto_region 1 with fail
  generalize hg0 : w.heap.size = g0 at *
  have HG0 := Lib.hid hg0
  generalize w.alloc (.cells #[.int .i64 0, .int .i64 0, .int .i64 0, .int .i64 0, .int .i64 0, .int .i64 0, .int .i64 0, .int .i64 0, .int .i64 0] 36) = w1 at *
  clear hg0
  refine q_begin (by kernel_rfl) (by kernel_rfl) ?_
  repeat (first
    | go_big_quiet_skip
    | (go_big_quiet_want; go_big_quiet_op; (first | go_big_quiet_on | (apply Exists.intro; refine ⟨fun _ _ => rfl, ?_⟩; go_big_quiet_on))))
  refine q_end ?_
  intro w3 hb3
  have HB3 := Lib.hid (HB.out.trans (hb3.mono (HG0.out ▸ HB.out.size)))
  clear hb3
  go_wp2_with fail
  go_ret
  have hge := HG0.out
  subst hge
  exact ⟨rfl, HB3.out⟩
set_option maxRecDepth 100000 in
theorem nfirst (w : World) : Calls Try.prog 13 #[.pointer none] w fun e w' => e = .returned (.tuple #[.agg #[.int .i64 0, .int .i64 0, .int .i64 0, .int .i64 0, .int .i64 0, .int .i64 0, .int .i64 0, .int .i64 0, .int .i64 0], .bool false]) ∧ Below w.heap.size w w' := by
  have HB := Lib.hid ((Below.refl w.heap.size w).alloc (Nat.le_refl _) (.cells #[.int .i64 0, .int .i64 0, .int .i64 0, .int .i64 0, .int .i64 0, .int .i64 0, .int .i64 0, .int .i64 0, .int .i64 0] 36))
  have A1 : Hid (Blk (w.alloc (.cells #[.int .i64 0, .int .i64 0, .int .i64 0, .int .i64 0, .int .i64 0, .int .i64 0, .int .i64 0, .int .i64 0, .int .i64 0] 36)) w.heap.size (#[.int .i64 0, .int .i64 0, .int .i64 0, .int .i64 0, .int .i64 0, .int .i64 0, .int .i64 0, .int .i64 0, .int .i64 0] : Array Value).toList 36) := Lib.hid (Blk.new w #[.int .i64 0, .int .i64 0, .int .i64 0, .int .i64 0, .int .i64 0, .int .i64 0, .int .i64 0, .int .i64 0, .int .i64 0] 36)
  go_enter Try.func13, Try.ntmps13
  go_upto_region 1 with fail
  generalize hg0 : w.heap.size = g0 at *
  have HG0 := Lib.hid hg0
  generalize w.alloc (.cells #[.int .i64 0, .int .i64 0, .int .i64 0, .int .i64 0, .int .i64 0, .int .i64 0, .int .i64 0, .int .i64 0, .int .i64 0] 36) = w1 at *
  clear hg0
  go_wp2_with fail
  refine (nlen _).mono ?_
  rintro e w2 ⟨rfl, hb⟩
  have A2 := Lib.hid (A1.out.keep hb A1.out.lt)
  have HB2 := Lib.hid (HB.out.trans (hb.mono (HG0.out ▸ HB.out.size)))
  have TO : RowT 36 (ints [0, 0, 0, 0, 0, 0, 0, 0, 0]).length := rowChg
  have OX : Hid (∀ u ∈ ints [0, 0, 0, 0, 0, 0, 0, 0, 0], u.oneCell' = true) := Lib.hid fun u hu => ints_one hu
  have HLA : ((#[.int .i64 0, .int .i64 0, .int .i64 0, .int .i64 0, .int .i64 0, .int .i64 0, .int .i64 0, .int .i64 0, .int .i64 0] : Array Value).toList).length = (ints [0, 0, 0, 0, 0, 0, 0, 0, 0]).length := rfl
  have A8 := Lib.hid (A2.out.setAll (ints [0, 0, 0, 0, 0, 0, 0, 0, 0]) rfl)
  have HB8 := Lib.hid (below_sets (B := g0) (Nat.le_refl _) (ints [0, 0, 0, 0, 0, 0, 0, 0, 0]) 0 _ HB2.out)
  clear hb A1 HB
  go_wp2_with (first
    | ((with_reducible refine st_row A2.out HLA TO OX.out ?_ ?_ ?_); (· rfl); (· rfl); (simp only [Act.put, List.setIfInBounds_toArray, List.set_cons_zero, List.set_cons_succ]); (generalize w2.setCells g0 0 (ints [0, 0, 0, 0, 0, 0, 0, 0, 0]) = w8 at *)))
  have hge := HG0.out
  subst hge
  refine ret_cell_tmp (cs := ints [0, 0, 0, 0, 0, 0, 0, 0, 0]) (v := .bool false) (p := 2) (q := 3) rfl rfl rfl A8.out Try.underlying36 rfl rowChg.2 rfl ?_
  exact ⟨rfl, HB8.out⟩
set_option maxRecDepth 100000 in
theorem ntake (w : World) : Calls Try.prog 14 #[.pointer none, .agg #[.int .i64 0, .int .i64 0]] w fun e w' => e = .returned (.tuple #[.agg #[.int .i64 0, .int .i64 0, .int .i64 0, .int .i64 0, .int .i64 0, .int .i64 0, .int .i64 0, .int .i64 0, .int .i64 0], .bool false]) ∧ Below w.heap.size w w' := by
  have HB := Lib.hid (((Below.refl w.heap.size w).alloc (Nat.le_refl _) (.cells #[.int .i64 0, .int .i64 0] 34)).alloc (by simp) (.cells #[.int .i64 0, .int .i64 0, .int .i64 0, .int .i64 0, .int .i64 0, .int .i64 0, .int .i64 0, .int .i64 0, .int .i64 0] 36))
  have Z1 : Hid (Blk ((w.alloc (.cells #[.int .i64 0, .int .i64 0] 34)).alloc (.cells #[.int .i64 0, .int .i64 0, .int .i64 0, .int .i64 0, .int .i64 0, .int .i64 0, .int .i64 0, .int .i64 0, .int .i64 0] 36)) (w.heap.size + 1) (#[.int .i64 0, .int .i64 0, .int .i64 0, .int .i64 0, .int .i64 0, .int .i64 0, .int .i64 0, .int .i64 0, .int .i64 0] : Array Value).toList 36) := Lib.hid (by have := Blk.new (w.alloc (.cells #[.int .i64 0, .int .i64 0] 34)) #[.int .i64 0, .int .i64 0, .int .i64 0, .int .i64 0, .int .i64 0, .int .i64 0, .int .i64 0, .int .i64 0, .int .i64 0] 36; simpa using this)
  have C1 : Hid (Blk ((w.alloc (.cells #[.int .i64 0, .int .i64 0] 34)).alloc (.cells #[.int .i64 0, .int .i64 0, .int .i64 0, .int .i64 0, .int .i64 0, .int .i64 0, .int .i64 0, .int .i64 0, .int .i64 0] 36)) w.heap.size (ints [0, 0]) 34) := Lib.hid ((show Blk (w.alloc (.cells #[.int .i64 0, .int .i64 0] 34)) w.heap.size (ints [0, 0]) 34 from Blk.new w #[.int .i64 0, .int .i64 0] 34).alloc _)
  go_enter Try.func14, Try.ntmps14
  go_upto_region 1 with fail
  generalize hg0 : w.heap.size = g0 at *
  have HG0 := Lib.hid hg0
  generalize (w.alloc (.cells #[.int .i64 0, .int .i64 0] 34)).alloc (.cells #[.int .i64 0, .int .i64 0, .int .i64 0, .int .i64 0, .int .i64 0, .int .i64 0, .int .i64 0, .int .i64 0, .int .i64 0] 36) = w1 at *
  clear hg0
  have rI := C1.out.range 0 (ints [0, 0]) rfl
  have TI : RowT 34 (ints [0, 0]).length := rowIdS
  go_wp2_with (first
    | ((with_reducible refine ld_row rI TI ?_ ?_ ?_); (· rfl); (· rfl); (simp only [Act.put, List.setIfInBounds_toArray, List.set_cons_zero, List.set_cons_succ])))
  refine (nfree _).mono ?_
  rintro e w2 ⟨rfl, hb⟩
  have HB2 := Lib.hid (HB.out.trans (hb.mono (HG0.out ▸ HB.out.size)))
  have Z2 := Lib.hid (Z1.out.keep hb Z1.out.lt)
  clear hb rI HB C1 Z1
  have TO : RowT 36 (ints [0, 0, 0, 0, 0, 0, 0, 0, 0]).length := rowChg
  have OX : Hid (∀ u ∈ ints [0, 0, 0, 0, 0, 0, 0, 0, 0], u.oneCell' = true) := Lib.hid fun u hu => ints_one hu
  have HLA : ((#[.int .i64 0, .int .i64 0, .int .i64 0, .int .i64 0, .int .i64 0, .int .i64 0, .int .i64 0, .int .i64 0, .int .i64 0] : Array Value).toList).length = (ints [0, 0, 0, 0, 0, 0, 0, 0, 0]).length := rfl
  have A8 := Lib.hid (Z2.out.setAll (ints [0, 0, 0, 0, 0, 0, 0, 0, 0]) rfl)
  have HB8 := Lib.hid (below_sets (B := g0) (Nat.le_succ g0) (ints [0, 0, 0, 0, 0, 0, 0, 0, 0]) 0 _ HB2.out)
  go_wp2_with (first
    | ((with_reducible refine st_row Z2.out HLA TO OX.out ?_ ?_ ?_); (· rfl); (· rfl); (simp only [Act.put, List.setIfInBounds_toArray, List.set_cons_zero, List.set_cons_succ]); (generalize w2.setCells (g0 + 1) 0 (ints [0, 0, 0, 0, 0, 0, 0, 0, 0]) = w8 at *)))
  have hge := HG0.out
  subst hge
  refine ret_cell_tmp (cs := ints [0, 0, 0, 0, 0, 0, 0, 0, 0]) (v := .bool false) (p := 4) (q := 5) rfl rfl rfl A8.out Try.underlying36 rfl rowChg.2 rfl ?_
  exact ⟨rfl, HB8.out⟩
set_option maxRecDepth 100000 in
set_option maxHeartbeats 2000000 in
theorem tclone_any {{w : World}} {{g n c : Nat}} {{a : Option Addr}} {{L : List Int}} (T : Hid (Tn w g a n c L)) (hn : n ≤ 1000) : Calls Try.prog 11 #[.pointer (some ⟨g, 0, none⟩)] w fun e w' => ∃ g2 a2 c2, e = .returned (.pointer (some ⟨g2, 0, none⟩)) ∧ w.heap.size ≤ g2 ∧ Tn w' g2 a2 n c2 L ∧ Below w.heap.size w w' := by
  have TA := Lib.hid (tall_any T hn)
  go_enter Try.func11, Try.ntmps11
  go_wp2_with fail
  refine TA.out.mono ?_
  rintro e w2 ⟨v2, rfl, hown, hb⟩
  obtain ⟨a2, c2, rfl, hs, hz, hc, _⟩ := own_slF hown
  have HB2 := Lib.hid hb
  have N2 : Hid (Tn (w2.alloc (.cells #[.slice a2 n c2] 29)) w2.heap.size a2 n c2 L) := Lib.hid ⟨Blk.new w2 #[.slice a2 n c2] 29, hs.keep ((Below.refl w2.heap.size w2).alloc (Nat.le_refl _) (.cells #[.slice a2 n c2] 29)), hz, hc⟩
  have HB3 := Lib.hid (HB2.out.trans (((Below.refl w2.heap.size w2).alloc (Nat.le_refl _) (.cells #[.slice a2 n c2] 29)).mono HB2.out.size))
  clear hb hown hs hz hc TA
  go_wp2_with fail
  go_ret
  exact ⟨_, a2, c2, rfl, HB2.out.size, N2.out, HB3.out⟩
theorem sl_apartG {w : World} {g n m k U s : Nat} {a b : Option Addr} {L : List Int} (hb : Blk w g [.slice b m k] U) (hs : Sl w a n s (ints L)) (hp : 0 < s) : n = 0 ∨ ∀ ad, a = some ad → ad.block ≠ g := by
  by_cases hn : n = 0
  · exact Or.inl hn
  refine Or.inr fun ad e hg => ?_
  have hl := hs.1
  rcases hs.2 with h0 | ⟨b2, off, ha, hlt, hc⟩
  · exact hn h0
  rw [ha] at e
  cases e
  have hg : b2 = g := hg
  subst hg
  have hns := Nat.mul_pos (Nat.pos_of_ne_zero hn) hp
  have h1 := hc 0 hns
  rw [Nat.add_zero, hb.cell off] at h1
  match L, hl, h1 with
  | [], hl, _ => simp [ints] at hl; omega
  | z :: r, _, h1 =>
    have e1 : (ints (z :: r)).getD 0 undef = .int .i64 z := rfl
    rw [e1] at h1
    match off, h1 with
    | 0, h1 => cases h1
    | k + 1, h1 => cases h1
theorem sl_apart {w : World} {g n m k U : Nat} {a b : Option Addr} {L : List Int} (hb : Blk w g [.slice b m k] U) (hs : Sl w a n 9 (ints L)) : n = 0 ∨ ∀ ad, a = some ad → ad.block ≠ g := sl_apartG hb hs (by decide)
theorem run_few {w : World} {g n c mc k cl : Nat} {a ma al : Option Addr} {L LL : List Int} (S : St w g a n c ma mc L) (hf : ∀ k, fits (L.getD k 0) = true) (hn : n ≤ 200) (hs : Sl w al k 12 (ints LL)) (hff : Hid (∀ z ∈ LL, fits z = true)) :
    Calls Try.prog 7 #[.pointer (some ⟨g, 0, none⟩), .slice ma n mc, .slice al (min k 50) cl] w fun e w' => RunR w g n 50 e w' :=
  (run_any S (Lib.hid hf) hn (Lib.hid (hs.fewG (Nat.min_le_left k 50))) (Lib.hid (by
    rcases sl_apartG S.t.b hs (by decide) with h | h
    · exact Or.inl (by omega)
    · exact Or.inr h)) (Lib.hid (fun z hz => hff.out z (List.mem_of_mem_take hz))) (by omega)).mono (fun e w' h => by
    obtain ⟨a', n', c', ma', mc', L', h1, h2, h3, h4, h5⟩ := h
    exact ⟨a', n', c', ma', mc', L', h1, h2, h3, by omega, h5⟩)
theorem St.only {w w' : World} {g gk n c mc m k U : Nat} {a ma b : Option Addr} {L : List Int} (S : St w g a n c ma mc L) (hb : Blk w gk [.slice b m k] U) (hne : g ≠ gk) (ho : Only (fun k => k = gk) w w') : St w' g a n c ma mc L :=
  ⟨⟨S.t.b.only ho hne, slOnly S.t.s (sl_apart hb S.t.s) ho, S.t.z, S.t.nc⟩, slOnly S.m (sl_apart hb S.m) ho, S.mz, S.mn, S.mg⟩
theorem blk_setsE {g T : Nat} (vs : List Value) : ∀ (o : Nat) (w : World) (cs : List Value), Blk w g cs T → ∃ cs', Blk (w.setCells g o vs) g cs' T ∧ cs'.length = cs.length := by
  induction vs with
  | nil => intro o w cs h; exact ⟨cs, h, rfl⟩
  | cons v r ih =>
    intro o w cs h
    obtain ⟨cs', h1, h2⟩ := ih (o + 1) _ _ (h.set o v)
    exact ⟨cs', h1, by rw [h2, List.length_set]⟩
end Go.Proofs.Ytcfipimhpeblbaa
