/- The contracts of vector. -/
import Derived.Test.YtcfipimhpeblbaaBlk
import Derived.Test.YtcfipimhpeblbaaOps
import Derived.Deep.LoopGhost
import Derived.Deep.QuietTactic
import Derived.BigQuiet
import Derived.Lib.SmallJoins
import Derived.StillTailTactics
namespace Go.Proofs.Ytcfipimhpeblbaa
set_option linter.unusedVariables false
set_option linter.unusedSimpArgs false
open Go.ChangeShapes Go.WideShapes Go.ChangeAt Go.RowKit
theorem vec_size : (Try.prog.info? 32).map (·.size) = some 4 := by kernel_rfl
theorem vec_load {d t g o : Nat} {ty : TypeId} {ps : String} {af : Array Edge} {a : Act} {w : World} {ops : Array Oper} {rest : List Oper} {Q : Exit → Act → World → Prop} {v : List Int}
    (hx : a.eval (.tmp t) = .pointer (some ⟨g, o, none⟩)) (hb : w.rangeAt g o (ints v)) (hv : Hid (v.length = 4)) (h : wpList Try.prog ops Q rest (a.put (some d) (.agg (ints v).toArray)) w) :
    wpList Try.prog ops Q (⟨some d, .load 32 (.tmp t), ty, ps, af, none⟩ :: rest) a w :=
  ls_run rfl (run_op_load rfl hx hb Try.underlying32 rfl (by rw [vec_size, ints_len, hv.out])) h
theorem vec_load_g {d t g o i : Nat} {b : Bool} {ty : TypeId} {ps : String} {af : Array Edge} {a : Act} {w : World} {ops : Array Oper} {rest : List Oper} {Q : Exit → Act → World → Prop} {v : List Int}
    (hx : a.eval (.tmp t) = .pointer (some ⟨g, o, none⟩)) (hw : Region.wanted ⟨some d, .load 32 (.tmp t), ty, ps, af, some (i, b)⟩ (yielded ops a.tmps) = true) (hb : w.rangeAt g o (ints v)) (hv : Hid (v.length = 4)) (h : wpList Try.prog ops Q rest (a.put (some d) (.agg (ints v).toArray)) w) :
    wpList Try.prog ops Q (⟨some d, .load 32 (.tmp t), ty, ps, af, some (i, b)⟩ :: rest) a w :=
  ls_run_g hw (run_op_load rfl hx hb Try.underlying32 rfl (by rw [vec_size, ints_len, hv.out])) h
theorem vec_load_st {d t g o : Nat} {gd : Option (Nat × Bool)} {ty : TypeId} {ps : String} {af : Array Edge} {a : Act} {w : World} {ops : Array Oper} {rest : List Oper} {R : Act → Prop} {v : List Int}
    (hx : a.eval (.tmp t) = .pointer (some ⟨g, o, none⟩)) (hw : Region.wanted ⟨some d, .load 32 (.tmp t), ty, ps, af, gd⟩ (yielded ops a.tmps) = true) (hb : w.rangeAt g o (ints v)) (hv : Hid (v.length = 4)) (h : wpStill Try.prog ops w R rest (a.put (some d) (.agg (ints v).toArray))) :
    wpStill Try.prog ops w R (⟨some d, .load 32 (.tmp t), ty, ps, af, gd⟩ :: rest) a :=
  st_run hw (run_op_load rfl hx hb Try.underlying32 rfl (by rw [vec_size, ints_len, hv.out])) h
theorem vec_store {t t' g T : Nat} {ty : TypeId} {ps : String} {af : Array Edge} {a : Act} {w : World} {ops : Array Oper} {rest : List Oper} {Q : Exit → Act → World → Prop} {v : List Int} {old : List Value}
    (hx : a.eval (.tmp t) = .pointer (some ⟨g, 0, none⟩)) (hy : a.eval (.tmp t') = .agg (ints v).toArray) (hb : Blk w g old T) (hl : old.length = 4) (hv : Hid (v.length = 4)) (h : wpList Try.prog ops Q rest (a.put none undef) (w.setCells g 0 (ints v))) :
    wpList Try.prog ops Q (⟨none, .store 32 (.tmp t) (.tmp t'), ty, ps, af, none⟩ :: rest) a w :=
  wpList_store_mid rfl 32 (.tmp t) (.tmp t') rfl g 0 _ hx hy (hb.there 0 _ (by rw [List.size_toArray, ints_len, hv.out, hl]; decide)) (by rw [vec_size, List.size_toArray, ints_len, hv.out]) (all_oneCell_toArray (fun u hu => ints_one hu)) (by rw [List.toList_toArray]; exact h)
theorem vec_store_new {t t' g T : Nat} {ty : TypeId} {ps : String} {af : Array Edge} {a : Act} {w : World} {ops : Array Oper} {rest : List Oper} {Q : Exit → Act → World → Prop} {v : List Int} {old : Array Value}
    (hx : a.eval (.tmp t) = .pointer (some ⟨g, 0, none⟩)) (hg : g = w.heap.size) (hy : a.eval (.tmp t') = .agg (ints v).toArray) (hl : old.size = 4) (hv : Hid (v.length = 4)) (h : wpList Try.prog ops Q rest (a.put none undef) (w.alloc (.cells (ints v).toArray T))) :
    wpList Try.prog ops Q (⟨none, .store 32 (.tmp t) (.tmp t'), ty, ps, af, none⟩ :: rest) a (w.alloc (.cells old T)) := by
  subst hg
  refine vec_store hx hy (Blk.new w old T) (by simpa using hl) hv ?_
  rw [setAll_new w old _ T (by rw [ints_len, hv.out, hl])]
  exact h
theorem Blk.vec {w : World} {g t : Nat} {v : List Int} (h : Blk w g (ints v) t) (hv : Hid (v.length = 4)) : w.rangeAt g 0 (ints v) := h.range 0 _ (by simp)
theorem Blk.vcell {w : World} {g t : Nat} {v : List Int} (h : Blk w g (ints v) t) (hv : Hid (v.length = 4)) {k : Nat} (hk : k < 4) : w.cell? ⟨g, k, none⟩ = some (.int .i64 (v.getD k 0)) := (h.cell k).trans (ints_get v k (by rw [hv.out]; exact hk))
/-- none of the first k is less. -/
def covTo (v u : List Int) : Nat → Bool
  | 0 => true
  | k + 1 => covTo v u k && decide (u.getD k 0 ≤ v.getD k 0)
theorem covTo_mono {v u : List Int} {k : Nat} : ∀ {n}, k < n → v.getD k 0 < u.getD k 0 → covTo v u n = false
  | 0, h, _ => absurd h (Nat.not_lt_zero _)
  | n + 1, h, hl => by
    unfold covTo
    by_cases hk : k = n
    · subst hk
      rw [decide_eq_false (by omega), Bool.and_false]
    · rw [covTo_mono (by omega) hl, Bool.false_and]
def cov (v u : List Int) : Bool := covTo v u 4
/-- the first k are joined. -/
def joinTo (v u : List Int) : Nat → List Int
  | 0 => v
  | k + 1 => (joinTo v u k).set k (max (v.getD k 0) (u.getD k 0))
theorem joinTo_len (v u : List Int) : ∀ k, (joinTo v u k).length = v.length
  | 0 => rfl
  | k + 1 => by simp [joinTo, joinTo_len v u k]
theorem joinTo_hi (v u : List Int) : ∀ k j, k ≤ j → (joinTo v u k).getD j 0 = v.getD j 0
  | 0, _, _ => rfl
  | k + 1, j, h => by
    have := joinTo_hi v u k j (by omega)
    rw [← this, List.getD_eq_getElem?_getD, List.getD_eq_getElem?_getD]
    show ((joinTo v u k).set k _)[j]?.getD 0 = _
    rw [List.getElem?_set_ne (by omega)]
theorem joinTo_lo (v u : List Int) : ∀ k j, j < k → j < v.length → (joinTo v u k).getD j 0 = max (v.getD j 0) (u.getD j 0)
  | 0, _, h, _ => absurd h (Nat.not_lt_zero _)
  | k + 1, j, h, hl => by
    show ((joinTo v u k).set k _).getD j 0 = _
    by_cases e : j = k
    · subst e
      rw [List.getD_eq_getElem?_getD, List.getElem?_set_self (by rw [joinTo_len]; exact hl)]; rfl
    · rw [List.getD_eq_getElem?_getD, List.getElem?_set_ne (fun q => e q.symm), ← List.getD_eq_getElem?_getD, joinTo_lo v u k j (by omega) hl]
def join4 (v u : List Int) : List Int := joinTo v u 4
end Go.Proofs.Ytcfipimhpeblbaa
