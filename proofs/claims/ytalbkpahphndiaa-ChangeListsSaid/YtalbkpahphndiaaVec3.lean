/- What is lacking. -/
import Derived.Test.YtalbkpahphndiaaVec2
import Derived.Great.BuildSlice
namespace Go.Proofs.Ytalbkpahphndiaa
set_option linter.unusedVariables false
set_option linter.unusedSimpArgs false
open Go.ChangeShapes Go.WideShapes Go.ChangeAt Go.RowKit
/-- a slice of one whole element. -/
theorem bs_one {P : Program} {t e d sz : Nat} {x : Operand} {ty : TypeId} {ps : String} {af : Array Edge} {a : Act} {w : World} {ops : Array Oper} {rest : List Oper} {Q : Exit → Act → World → Prop} {cs : List Value}
    (hu : P.underlying t = some (.slice e)) (hi : (P.info? e).map (fun i => (i.zero.isSome, i.size)) = some (true, sz)) (hpos : 0 < sz) (hsm : sz ≤ 16777216)
    (hx : a.eval x = .agg cs.toArray) (hl : Hid (cs.length = sz)) (h : wpList P ops Q rest (a.put (some d) (.slice (some ⟨w.heap.size, 0, none⟩) 1 1)) (w.alloc (.cells cs.toArray e))) :
    wpList P ops Q (⟨some d, .buildSlice t 1 #[(0, x)], ty, ps, af, none⟩ :: rest) a w := by
  cases hie : P.info? e with
  | none => rw [hie] at hi; cases hi
  | some ie =>
    rw [hie] at hi
    simp only [Option.map_some, Option.some.injEq, Prod.mk.injEq] at hi
    obtain ⟨z, hz⟩ := Option.isSome_iff_exists.1 hi.1
    refine wpList_buildSlice rfl t e 1 #[(0, x)] rfl cs.toArray ie z hu hie hz (by rw [hi.2]; omega) (by rw [hi.2]; omega) ?_ h
    have := Great.fill_whole hpos [.agg cs.toArray] ((Array.range (1 * sz)).map (z.cells[· % z.cells.size]!)) (by intro v hv; rw [List.mem_singleton] at hv; subst hv; simpa [Value.cells] using hl.out) (by simp)
    rw [hi.2]
    simpa [hx, Value.cells] using this
theorem chg_whole : (Try.prog.info? 25).map (fun i => (i.zero.isSome, i.size)) = some (true, 9) := by kernel_rfl
theorem chg_info : (Try.prog.info? 25).map (fun i => (i.zero, i.size, i.bytes)) = some (some (.agg #[.int .i64 0, .int .i64 0, .int .i64 0, .int .i64 0, .int .i64 0, .int .i64 0, .int .i64 0, .int .i64 0, .int .i64 0]), 9, 72) := by kernel_rfl
theorem Blk.chg {w : World} {g t : Nat} {x : List Int} (h : Blk w g (ints x) t) (hv : Hid (x.length = 9)) : w.rangeAt g 0 (ints x) := h.range 0 _ (by simp)
theorem own_kept {w w2 : World} {B : Nat} {e : TypeId} {sz : Nat} {v : Value} {n : Nat} {xs : List Value} (h : w.ownsRow B e sz v n xs) (hb : Below w.heap.size w w2) : w2.ownsRow B e sz v n xs := by
  refine ⟨h.1, h.2.imp id ?_⟩
  rintro ⟨g, cap, cur, h1, h2, h3, h4⟩
  have hlt : g < w.heap.size := by
    rcases Nat.lt_or_ge g w.heap.size with hl | hl
    · exact hl
    · rw [Array.getElem?_eq_none hl] at h3; cases h3
  exact ⟨g, cap, cur, h1, h2, by rw [hb.block g hlt]; exact h3, h4⟩
theorem ints_app (l m : List Int) : ints (l ++ m) = ints l ++ ints m := by simp [ints]
/-- what v lacks of the first k changes. -/
def lackTo (v L : List Int) : Nat → List Int
  | 0 => []
  | k + 1 => if known v (L.getD (k * 9) 0) (L.getD (k * 9 + 1) 0) then lackTo v L k else lackTo v L k ++ chAt L k
def lackN (v L : List Int) : Nat → Nat
  | 0 => 0
  | k + 1 => if known v (L.getD (k * 9) 0) (L.getD (k * 9 + 1) 0) then lackN v L k else lackN v L k + 1
theorem lackTo_yes {v L : List Int} {k : Nat} (h : known v (L.getD (k * 9) 0) (L.getD (k * 9 + 1) 0) = true) : lackTo v L (k + 1) = lackTo v L k ∧ lackN v L (k + 1) = lackN v L k := by
  rw [lackTo, lackN, if_pos h, if_pos h]; exact ⟨rfl, rfl⟩
theorem lackTo_no {v L : List Int} {k : Nat} (h : known v (L.getD (k * 9) 0) (L.getD (k * 9 + 1) 0) = false) : lackTo v L (k + 1) = lackTo v L k ++ chAt L k ∧ lackN v L (k + 1) = lackN v L k + 1 := by
  rw [lackTo, lackN, if_neg (by rw [h]; simp), if_neg (by rw [h]; simp)]; exact ⟨rfl, rfl⟩
theorem lackN_le (v L : List Int) : ∀ k, lackN v L k ≤ k
  | 0 => Nat.le_refl _
  | k + 1 => by
    have := lackN_le v L k
    unfold lackN
    split <;> omega
end Go.Proofs.Ytalbkpahphndiaa
