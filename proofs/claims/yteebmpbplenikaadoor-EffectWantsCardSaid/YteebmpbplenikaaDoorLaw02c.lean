/- The law on what one owns. -/
import Derived.Test.YteebmpbplenikaaDoorLaw02
import Derived.Deep.QuietTactic
import Derived.BigQuiet
import Derived.Lib.SmallJoins
import Derived.Laws.AppendOwnNone
namespace Go.Proofs.YteebmpbplenikaaDoor
set_option linter.unusedVariables false
set_option linter.unusedSimpArgs false
open Go.ChangeShapes Go.WideShapes Go.ChangeAt Go.RowKit
theorem Rdr.grown {w w' : World} {g : Nat} {v : Value} {f : Bool} {row : Option Nat} (h : Rdr w g v f) (hg : w.grownBy w' row) (hne : some g ≠ row) : Rdr w' g v f := (hg.block g h.lt hne).trans h
theorem owned_at {w : World} {base : Nat} {e : TypeId} {a : Option Addr} {c n : Nat} {bs : List UInt8} (h : w.ownsRow base e 1 (.slice a n c) n (bcells bs)) {j : Nat} (hj : j < n) :
    ∃ g, a = some ⟨g, 0, none⟩ ∧ base ≤ g ∧ w.cell? ⟨g, j, none⟩ = some (.int .u8 ((bs.getD j 0).toNat : Int)) ∧ w.frozen? ⟨g, j, none⟩ = false := by
  rcases h.2 with ⟨hv, h0⟩ | ⟨g, cap, cur, hv, hb, hh, hn, hm, hs, ht⟩
  · omega
  · injection hv with e1 e2 e3
    refine ⟨g, e1, hb, ?_, frozen_of_row w g j cur e hh⟩
    obtain ⟨_, b, off, e4, _, hc⟩ := (show Sl w a n 1 (bcells bs) from by
      obtain ⟨a', c', e5, _, _, hs⟩ := Sl.own h
      injection e5 with e6 e7 e8
      subst e6
      exact hs).byte (by omega)
    rw [e1] at e4
    injection e4 with e4
    injection e4 with e4 e5
    subst e4; subst e5
    have := hc j hj
    rwa [Nat.zero_add] at this
/-- a row of one's own stays where a block below its base is written. -/
theorem own_lo {w w' : World} {base : Nat} {e : TypeId} {sz : Nat} {v : Value} {n : Nat} {xs : List Value} {row : Option Nat} (h : w.ownsRow base e sz v n xs) (hg : w.grownBy w' row) (hr : ∀ q, row = some q → q < base) : w'.ownsRow base e sz v n xs := by
  refine h.kept hg ?_
  cases hv : v.ownBlock with
  | none => exact Or.inl rfl
  | some q =>
    refine Or.inr fun e => ?_
    have h1 := (h.lt q hv).1
    have h2 := hr q e.symm
    omega
/-- or a block from some number on above which it does not lie. -/
theorem own_hi {w w' : World} {base : Nat} {e : TypeId} {sz : Nat} {v : Value} {n : Nat} {xs : List Value} {row : Option Nat} (h : w.ownsRow base e sz v n xs) (hg : w.grownBy w' row) (hr : ∀ q, row = some q → ∀ p, v.ownBlock = some p → p ≠ q) : w'.ownsRow base e sz v n xs := by
  refine h.kept hg ?_
  cases hv : v.ownBlock with
  | none => exact Or.inl rfl
  | some p =>
    refine Or.inr fun e => ?_
    exact hr p e.symm p hv rfl
theorem sl_own {w : World} {base : Nat} {e : TypeId} {sz : Nat} {a : Option Addr} {c : Nat} {n : Nat} {xs : List Value} (h : w.ownsRow base e sz (.slice a n c) n xs) : Sl w a n sz xs := by
  obtain ⟨a', c', he, _, _, hs⟩ := Sl.own h
  injection he with e1 e2 e3
  subst e1
  exact hs
/-- octets stay where a reader is written. -/
theorem Sl.other {w w' : World} {a : Option Addr} {g n : Nat} {v : Value} {f : Bool} {bs : List UInt8} (h : Sl w a n 1 (bcells bs)) (hr : Rdr w g v f) (hv : ∀ k n, v ≠ .int k n) (hg : w.grownBy w' (some g)) : Sl w' a n 1 (bcells bs) := by
  refine ⟨h.1, ?_⟩
  by_cases h0 : n = 0
  · exact Or.inl h0
  · obtain ⟨_, b, off, rfl, hb, hcell⟩ := h.byte (by omega)
    have hne : b ≠ g := hr.ne_ hv (hcell 0 (by omega))
    rcases h.2 with h1 | ⟨b', off', ha, _, hc⟩
    · exact absurd h1 h0
    · injection ha with ha
      injection ha with ha1 ha2
      subst ha1; subst ha2
      refine Or.inr ⟨b, off, rfl, Nat.lt_of_lt_of_le hb hg.size, fun j hj => ?_⟩
      have h3 := hcell j (by omega)
      rw [hg.cell (a := ⟨b, off + j, none⟩) h3 (fun e => hne (by injection e)), ← h3]
      exact hc j hj
theorem Sl.front {w : World} {a : Option Addr} {n k : Nat} {bs : List UInt8} (h : Sl w a n 1 (bcells bs)) (hk : k ≤ n) : Sl w a k 1 (bcells (bs.take k)) := by
  have hbl : bs.length = n := by have := h.1; rw [bcells_len] at this; omega
  refine ⟨by rw [bcells_len, List.length_take]; omega, ?_⟩
  by_cases h0 : k = 0
  · exact Or.inl h0
  · obtain ⟨_, b, off, rfl, hb, hcell⟩ := h.byte (by omega)
    refine Or.inr ⟨b, off, rfl, hb, fun j hj => ?_⟩
    rw [hcell j (by omega)]
    simp [bcells, List.getD_eq_getElem?_getD, List.getElem?_eq_getElem (show j < bs.length by omega), show j < k by omega]
theorem conv_draws {w : World} {a : Option Addr} {n : Nat} {bs : List UInt8} (h : Sl w a n 1 (bcells bs)) (c nq : Nat) : (convert 26 9 (.slice a n c)).run Tryd.prog (w.drewN nq) = .ok (.string ⟨bs.toArray⟩) (w.drewN nq) := conv_bytes (h.keep (Go.Joins.below_draws _ _ _)) c
/-- two growths, the second above. -/
theorem grown_up {w w1 w2 : World} {r r2 : Option Nat} (h1 : w.grownBy w1 r) (h2 : w1.grownBy w2 r2) (h : ∀ q, r2 = some q → w.heap.size ≤ q) : w.grownBy w2 r :=
  ⟨h2.os.trans h1.os, h2.tape.trans h1.tape, h2.output.trans h1.output, Nat.le_trans h1.size h2.size, fun k hk hne => (h2.block k (Nat.lt_of_lt_of_le hk h1.size) (fun e => by have := h k e.symm; omega)).trans (h1.block k hk hne)⟩
end Go.Proofs.YteebmpbplenikaaDoor
