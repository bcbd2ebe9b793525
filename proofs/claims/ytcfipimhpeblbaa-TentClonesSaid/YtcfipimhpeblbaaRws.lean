/- Slices of rows of s integers each, whatever s; loads and comparisons of rows in still regions. -/
import Derived.Test.YtcfipimhpeblbaaLd
import Derived.Test.YtcfipimhpeblbaaRd
import Derived.Test.YtcfipimhpeblbaaRow
import Derived.Great.BuildSlice
import Derived.RegionTactic
import Derived.BigRegion
import Derived.ChangeAlike
namespace Go.Proofs.Ytcfipimhpeblbaa
set_option linter.unusedVariables false
set_option linter.unusedSimpArgs false
open Go.ChangeShapes Go.WideShapes Go.ChangeAt Go.RowKit
section
variable {ops : Array Oper} {R : Act → Prop} {rest : List Oper} {a : Act} {w : World} {ty : TypeId} {ps : String} {af : Array Edge} {gd : Option (Nat × Bool)}
theorem lds_rowG {T g o d t : Nat} {cs : List Value} (hb : w.rangeAt g o cs) (hT : RowT T cs.length)
    (hx : a.eval (.tmp t) = .pointer (some ⟨g, o, none⟩)) (hw : Region.wanted ⟨some d, .load T (.tmp t), ty, ps, af, gd⟩ (yielded ops a.tmps) = true)
    (h : wpStill Try.prog ops w R rest (a.put (some d) (.agg cs.toArray))) : wpStill Try.prog ops w R (⟨some d, .load T (.tmp t), ty, ps, af, gd⟩ :: rest) a := by
  obtain ⟨⟨td, h1, h2⟩, h3⟩ := hT
  exact st_run hw (run_op_load rfl hx hb h1 h2 h3) h
theorem cmps_rowG {T rt d t t' : Nat} {op : BinOp} {xs ys : Array Value} {v : Value} (hm : Try.prog.eqGuardType Try.prog.depth T = false) (NE : ∀ w, (binOp op T (.agg xs) (.agg ys)).run Try.prog w = .ok v w)
    (hx : a.eval (.tmp t) = .agg xs) (hy : a.eval (.tmp t') = .agg ys) (hw : Region.wanted ⟨some d, .binOp op T (.tmp t) (.tmp t') rt, ty, ps, af, gd⟩ (yielded ops a.tmps) = true)
    (h : wpStill Try.prog ops w R rest (a.put (some d) v)) : wpStill Try.prog ops w R (⟨some d, .binOp op T (.tmp t) (.tmp t') rt, ty, ps, af, gd⟩ :: rest) a :=
  st_run hw (run_op_cmp rfl hx hy hm (NE w)) h
end
/-- a slice of one whole element. -/
theorem bs_oneG {P : Program} {t e d sz : Nat} {x : Operand} {ty : TypeId} {ps : String} {af : Array Edge} {a : Act} {w : World} {ops : Array Oper} {rest : List Oper} {Q : Exit → Act → World → Prop} {cs : List Value}
    (hu : P.underlying t = some (.slice e)) (hi : (P.info? e).map (fun i => (i.zero.isSome, i.size)) = some (true, sz)) (hpos : 0 < sz) (hsm : sz ≤ 16777216)
    (hx : a.eval x = .agg cs.toArray) (hl : Hid (cs.length = sz)) (h : wpList P ops Q rest (a.put (some d) (.slice (some ⟨w.heap.size, 0, none⟩) 1 1)) (w.alloc (.cells cs.toArray e))) :
    wpList P ops Q (⟨some d, .buildSlice t 1 #[(0, x)], ty, ps, af, none⟩ :: rest) a w := by
  cases hie : P.info? e with
  | none => rw [hie] at hi; cases hi
  | some ie =>
    rw [hie] at hi
    simp only [Option.map_some, Option.some.injEq, Prod.mk.injEq] at hi
    obtain ⟨z, hz⟩ := Option.isSome_iff_exists.1 hi.1
    refine wpList_buildSlice rfl t e 1 #[(0, x)] rfl cs.toArray ie z hu hie hz (by rw [hi.2]; omega) (by rw [hi.2]; omega) ?_ h
    have := Great.fill_whole hpos [.agg cs.toArray] ((Array.range (1 * sz)).map (z.cells[· % z.cells.size]!)) (by intro v hv; rw [List.mem_singleton] at hv; subst hv; simpa [Value.cells] using hl.out) (by simp)
    rw [hi.2]
    simpa [hx, Value.cells] using this
theorem ints_appG (l m : List Int) : ints (l ++ m) = ints l ++ ints m := by simp [ints]
theorem range_keepG {w w' : World} {b o B : Nat} {cs : List Value} (h : w.rangeAt b o cs) (hb : Below B w w') (hlt : b < B) : w'.rangeAt b o cs := fun j v hv => (hb.cell (p := ⟨b, o + j, none⟩) hlt).trans (h j v hv)
/-- the i-th row of s integers. -/
def rAt (s : Nat) (L : List Int) (i : Nat) : List Int := (L.drop (i * s)).take s
theorem mul_row {i n s : Nat} (h : i < n) : i * s + s ≤ n * s := by
  have := Nat.mul_le_mul_right s (show i + 1 ≤ n from h)
  rwa [Nat.add_mul, Nat.one_mul] at this
theorem rAt_len {s : Nat} {L : List Int} {n i : Nat} (hl : L.length = n * s) (hi : i < n) : (rAt s L i).length = s := by
  have := mul_row (s := s) hi
  unfold rAt
  rw [List.length_take, List.length_drop, hl]
  omega
theorem rAt_get {s : Nat} {L : List Int} {i k : Nat} (hk : k < s) : (rAt s L i).getD k 0 = L.getD (i * s + k) 0 := by
  unfold rAt
  rw [List.getD_eq_getElem?_getD, List.getElem?_take_of_lt hk, List.getElem?_drop, List.getD_eq_getElem?_getD]
theorem rAt_at {s : Nat} {w : World} {a : Option Addr} {n i : Nat} {L : List Int} (hs : Sl w a n s (ints L)) (hi : i < n) : ∃ b off, a = some ⟨b, off, none⟩ ∧ b < w.heap.size ∧ w.rangeAt b (off + i * s) (ints (rAt s L i)) := by
  rcases hs.2 with h | ⟨b, off, ha, hb, hc⟩
  · omega
  · refine ⟨b, off, ha, hb, fun j v hv => ?_⟩
    have hl : L.length = n * s := by have := hs.1; rwa [ints_len] at this
    have hj : j < s := by
      have := (List.getElem?_eq_some_iff.1 hv).1
      rwa [ints_len, rAt_len hl hi] at this
    rw [ints_get _ _ (by rw [rAt_len hl hi]; exact hj), rAt_get hj] at hv
    have hle : i * s + j < n * s := by have := mul_row (s := s) hi; omega
    rw [Nat.add_assoc, hc (i * s + j) hle, List.getD_eq_getElem?_getD, ints_get _ _ (by omega)]
    exact hv
theorem rAt_mem {s : Nat} {L : List Int} {i : Nat} {z : Int} (h : z ∈ rAt s L i) : z ∈ L := List.mem_of_mem_drop (List.mem_of_mem_take h)
theorem rAt_app_lo {s : Nat} {A B : List Int} {k i : Nat} (hA : A.length = k * s) (hi : i < k) : rAt s (A ++ B) i = rAt s A i := by
  have := mul_row (s := s) hi
  unfold rAt
  rw [List.drop_append_of_le_length (by omega), List.take_append_of_le_length (by rw [List.length_drop]; omega)]
theorem rAt_app_hi {s : Nat} {A B : List Int} {k : Nat} (hA : A.length = k * s) (hB : B.length = s) : rAt s (A ++ B) k = B := by
  unfold rAt
  rw [← hA, List.drop_left, List.take_of_length_le (by omega)]
theorem take_row {s : Nat} (L : List Int) (m : Nat) : L.take ((m + 1) * s) = L.take (m * s) ++ rAt s L m := by
  rw [Nat.add_mul, Nat.one_mul, List.take_add]; rfl
/-- the first m of n rows. -/
theorem Sl.fewG {s : Nat} {w : World} {a : Option Addr} {n m : Nat} {L : List Int} (h : Sl w a n s (ints L)) (hm : m ≤ n) : Sl w a m s (ints (L.take (m * s))) := by
  have hl : L.length = n * s := by have := h.1; rwa [ints_len] at this
  have hms : m * s ≤ n * s := Nat.mul_le_mul_right s hm
  refine ⟨by rw [ints_len, List.length_take, hl]; omega, ?_⟩
  rcases h.2 with h0 | ⟨b, off, ha, hb, hc⟩
  · exact Or.inl (by omega)
  · refine Or.inr ⟨b, off, ha, hb, fun j hj => ?_⟩
    rw [hc j (by omega), List.getD_eq_getElem?_getD, List.getD_eq_getElem?_getD, ints_get _ _ (by omega), ints_get _ _ (by rw [List.length_take]; omega), List.getD_eq_getElem?_getD, List.getD_eq_getElem?_getD, List.getElem?_take_of_lt (by omega)]
theorem all_intsG : ∀ {xs : List Value}, (∀ u ∈ xs, ∃ z, u = .int .i64 z ∧ (Lit.int .i64 z).wf = true) → ∃ L : List Int, xs = ints L ∧ ∀ z ∈ L, (Lit.int .i64 z).wf = true
  | [], _ => ⟨[], rfl, fun z hz => by cases hz⟩
  | x :: xs, h => by
    obtain ⟨z, rfl, hz⟩ := h x List.mem_cons_self
    obtain ⟨L, rfl, hL⟩ := all_intsG (xs := xs) fun u hu => h u (List.mem_cons_of_mem _ hu)
    exact ⟨z :: L, rfl, fun y hy => by
      rcases List.mem_cons.1 hy with rfl | hy
      · exact hz
      · exact hL y hy⟩
/-- a slice of rows of s integers, as it comes in. -/
theorem Arg.rowsG {s t e f : Nat} {w : World} {v : Value} (h : Arg Try.prog w t v) (hu : Try.prog.underlying t = some (.slice e)) (hk : flat Try.prog f e = some (List.replicate s (some .i64))) (hc : Try.prog.cellsOf e = s) (hp : 0 < s) :
    ∃ a n c L, v = .slice a n c ∧ n ≤ c ∧ c ≤ maxLen ∧ Sl w a n s (ints L) ∧ ∀ z ∈ L, fits z = true := by
  obtain ⟨a, n, c, xs, rfl, h1, h2, h3, h4, h5⟩ := h.flat_slice hu hk (by rw [hc, List.length_replicate]) (by rw [List.length_replicate]; exact hp)
  rw [List.length_replicate] at h4 h5
  have hE : ∃ L : List Int, xs = ints L ∧ ∀ z ∈ L, (Lit.int .i64 z).wf = true := by
    refine all_intsG fun u hu => ?_
    obtain ⟨j, hj, rfl⟩ := List.getElem_of_mem hu
    have hl : xs.length = n * s := h4.1
    have hi : j / s < n := Nat.div_lt_of_lt_mul (by rw [Nat.mul_comm, ← hl]; exact hj)
    have hm := Nat.mod_lt j hp
    have hdm : j / s * s + j % s = j := Nat.div_add_mod' j s
    have : ((xs.drop (j / s * s)).take s)[j % s]? = some xs[j] := by
      rw [List.getElem?_take_of_lt hm, List.getElem?_drop, hdm, List.getElem?_eq_getElem hj]
    obtain ⟨k, hk1, hk⟩ := (h5 _ hi).get this
    rw [List.getElem?_replicate, if_pos hm] at hk1
    obtain rfl := Option.some.inj hk1
    exact hk
  obtain ⟨L, rfl, hL⟩ := hE
  exact ⟨a, n, c, L, rfl, h1, h2, h4, fun z hz => fits_wf (hL z hz)⟩
theorem first_badG (P : Nat → Bool) : ∀ n, (∀ i, i < n → P i = true) ∨ ∃ j, j < n ∧ (∀ i, i < j → P i = true) ∧ P j = false
  | 0 => Or.inl fun i h => absurd h (Nat.not_lt_zero _)
  | n + 1 => by
    rcases first_badG P n with h | ⟨j, h1, h2, h3⟩
    · rcases hp : P n with _ | _
      · exact Or.inr ⟨n, Nat.lt_succ_self _, h, hp⟩
      · refine Or.inl fun i hi => ?_
        by_cases e : i = n
        · subst e; exact hp
        · exact h i (by omega)
    · exact Or.inr ⟨j, by omega, h2, h3⟩
end Go.Proofs.Ytcfipimhpeblbaa
